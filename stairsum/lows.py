"""Lows: the places whose rest is less than at all places from 0 on ahead of them."""

from stairsum.errors import NoCount
from stairsum.hits import first_within
from stairsum.stairs import need_stair
from stairsum.sums import need_count


def need_places(n):
    """Refuse what is no count, and the count 0: among no places none is the lowest."""
    need_count(n)
    if n == 0:
        raise NoCount("there are lows among one place or more")


def low_runs(stair, n):
    """The runs (place, rest, on, down, times) of the lows among the places 0 to n - 1."""
    a, b, m = stair
    place, left = 0, b % m
    runs = []
    while left > 0:
        # The next low lies as few places on as take the rest down, by no more than there is of it.
        on = first_within((-a, 0, m), 1, left + 1)
        if on is None or place + on >= n:
            break
        down = -a * on % m
        times = min(left // down, (n - 1 - place) // on)
        runs.append((place, left, on, down, times))
        place, left = place + on * times, left - down * times
    return runs


def last_low(stair, n):
    """The tuple (rest, place) of the last low among the places 0 to n - 1."""
    runs = low_runs(stair, n)
    if not runs:
        return (stair[1] % stair[2], 0)
    place, left, on, down, times = runs[-1]
    return (left - down * times, place + on * times)


def lows(stair, n):
    """The lows among the places 0 to n - 1, told by runs, as a list of tuples."""
    need_stair(stair)
    need_places(n)
    return low_runs(stair, n)


def lowest(stair, n):
    """The tuple (rest, place) of the least rest and the first place that has it."""
    need_stair(stair)
    need_places(n)
    return last_low(stair, n)


def highest(stair, n):
    """The tuple (rest, place) of the greatest rest and the first place that has it."""
    need_stair(stair)
    need_places(n)
    a, b, m = stair
    # On this stair each rest is what the given one's rest wants to m - 1, so the lowest is the highest.
    left, place = last_low((-a, -b - 1, m), n)
    return (m - 1 - left, place)

"""How often a stair's rests lie within bounds."""

from stairsum.errors import NoBounds
from stairsum.stairs import is_whole, need_stair
from stairsum.sums import height_sum, need_count


def need_bounds(stair, low, high):
    """Refuse what are no bounds for the stair."""
    if not is_whole(low) or not is_whole(high) or not 0 <= low <= high <= stair[2]:
        raise NoBounds("bounds are whole numbers from 0 to m, low no more than high")


def many_within(stair, n, low, high):
    """How many of the places 0 to n - 1 are within, also of more places than a count may tell."""
    a, b, m = stair
    # A stair that is lowered by a bound has a height one less just where the rest is below the bound.
    return height_sum((a, b - low, m), n) - height_sum((a, b - high, m), n)


def often(stair, n, low, high):
    """How many of the places 0 to n - 1 have a rest from low on and below high."""
    need_stair(stair)
    need_count(n)
    need_bounds(stair, low, high)
    return many_within(stair, n, low, high)

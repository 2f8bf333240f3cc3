"""Where a stair's rests lie within bounds: the first place, the next one, and the one of a number."""

from stairsum.counts import many_within, need_bounds
from stairsum.stairs import begun_at, need_stair
from stairsum.sums import need_count


def up_divided(top, bottom):
    """The least whole number that times bottom is no less than top."""
    return -(-top // bottom)


def first_multiple(a, m, least, most):
    """The least k from 0 on for which what is left of a k by m is from least to most, or None.

    Here a is from 0 to m - 1, and least and most are from 1 to m - 1.
    """
    passed = []
    while a > 0:
        k = up_divided(least, a)
        if a * k <= most:
            break
        # No multiple of a lies between least and most, so m has to be taken off j times, the least j
        # for which what is left of m j by a fills up to there: the same question with lesser numbers.
        passed.append((a, m, least))
        a, m, least, most = m % a, a, -most % a, -least % a
    else:
        return None
    for a, m, least in reversed(passed):
        k = up_divided(least + m * k, a)
    return k


def first_within(stair, low, high):
    """The least place from 0 on that is within the bounds, or None."""
    a, b, m = stair
    if low == high:
        return None
    if low <= b % m < high:
        return 0
    # With b taken off, the bounds do not go past m: else they would have 0 within, and so the place 0.
    least = (low - b) % m
    return first_multiple(a % m, m, least, least + high - low - 1)


def next_within(stair, low, high, k):
    """The least place from k on that is within the bounds, or None."""
    on = first_within(begun_at(stair, k), low, high)
    return None if on is None else k + on


def hit_of_wide(stair, width, n):
    """The place of the hit number n of the bounds (0, width), where no two places side by side miss them.

    The place 0 is a hit.
    """
    least, most = n, 2 * n
    while least < most:
        middle = (least + most) // 2
        if many_within(stair, middle + 1, 0, width) > n:
            most = middle
        else:
            least = middle + 1
    return least


def hit_behind(stair, first, low, width, n):
    """The place of the hit number n, where first is the place of the hit number 0."""
    a, b, m = stair
    begin = (a * first + b) % m - low
    up_leap = next_within((a, 0, m), 0, width, 1)
    down_leap = next_within((-a, 0, m), 0, width, 1)
    up, down = a * up_leap % m, -a * down_leap % m
    turn = up + down
    if turn == 0:
        return first + n * up_leap
    # From hit to hit the rest goes by the shortest leap up, or the shortest one down, or by both, just
    # where one alone would leave the bounds. So the leaps, one by one, are the places of a stair of rests
    # up to turn, which is less than twice the width, and on which no two misses stand side by side.
    leaps = hit_of_wide((up, begin, turn), width, n)
    downs = (up * leaps + begin) // turn
    return first + up_leap * (leaps - downs) + down_leap * downs


def first_hit(stair, low, high):
    """The least place from 0 on whose rest is from low on and below high, or None."""
    need_stair(stair)
    need_bounds(stair, low, high)
    return first_within(stair, low, high)


def hit(stair, low, high, n):
    """The place of the hit number n, numbered from 0 on, or None where there is no hit at all."""
    need_stair(stair)
    need_bounds(stair, low, high)
    need_count(n)
    first = first_within(stair, low, high)
    return None if first is None else hit_behind(stair, first, low, high - low, n)


def next_hit(stair, low, high, k):
    """The least place from k on whose rest is from low on and below high, or None."""
    need_stair(stair)
    need_bounds(stair, low, high)
    return next_within(stair, low, high, k)

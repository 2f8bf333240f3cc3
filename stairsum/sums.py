"""Sums of a stair's heights over very many places, told in few steps."""

from stairsum.errors import NoCount, TooMany
from stairsum.stairs import is_whole, need_stair

COUNT_END = 10 ** 30
MOST_HEIGHTS = 2000


def is_count(thing):
    """Whether the thing is a count, a whole number from 0 to 10 ** 30 - 1."""
    return is_whole(thing) and 0 <= thing < COUNT_END


def need_count(thing):
    """Refuse what is no count."""
    if not is_count(thing):
        raise NoCount("a count is a whole number from 0 to 10 ** 30 - 1")


def heights(stair, k, n):
    """The heights at the n places from k on, as a list."""
    need_stair(stair)
    need_count(n)
    if n > MOST_HEIGHTS:
        raise TooMany("at most two thousand heights are told at once")
    a, b, m = stair
    return [(a * place + b) // m for place in range(k, k + n)]


def height_sum(stair, n):
    """The sum of the heights at the places 0 to n - 1, also of more places than a count may tell."""
    a, b, m = stair
    many = n
    total = 0
    while many > 0:
        total += a // m * (many * (many - 1) // 2) + b // m * many
        rise_left, begin_left = a % m, b % m
        top, over = divmod(rise_left * many + begin_left, m)
        # The heights that are left count the whole points below a line. Counted by columns from
        # the top down, the same points are the heights of a stair with a and m exchanged.
        many, a, b, m = top, m, over, rise_left
    return total


def sum_of(stair, n):
    """The sum of the heights at the places 0 to n - 1."""
    need_stair(stair)
    need_count(n)
    return height_sum(stair, n)

"""Stairs: tuples (a, b, m) with the whole part of (a k + b) / m as the height at the place k."""

from stairsum.errors import NoStair


def is_whole(thing):
    """Whether the thing is a whole number."""
    # Python counts True and False among the integers, the document does not.
    return isinstance(thing, int) and not isinstance(thing, bool)


def is_stair(thing):
    """Whether the thing is a stair; anything may be asked."""
    if not isinstance(thing, tuple) or len(thing) != 3:
        return False
    a, b, m = thing
    return is_whole(a) and is_whole(b) and is_whole(m) and m >= 1


def need_stair(thing):
    """Refuse what is no stair."""
    if not is_stair(thing):
        raise NoStair("a stair is a tuple (a, b, m) of whole numbers, m from 1 on")


def height(stair, k):
    """The greatest h such that h times m is no more than a k + b."""
    need_stair(stair)
    a, b, m = stair
    return (a * k + b) // m


def rest(stair, k):
    """What a k + b is more than the height at k times m, from 0 to m - 1."""
    need_stair(stair)
    a, b, m = stair
    return (a * k + b) % m


def common_divisor(a, m):
    """The greatest number that divides both a, of either sign, and m, which is above 0."""
    # What is left by m is never below 0, so the divisor comes out above 0 for every a.
    divisor, left = m, a % m
    while left > 0:
        divisor, left = left, divisor % left
    return divisor


def least(stair):
    """The stair alike with the least m."""
    need_stair(stair)
    a, b, m = stair
    divisor = common_divisor(a, m)
    # The divisor parts a k and m alike, so what b is more than a multiple of it lifts no height.
    return (a // divisor, b // divisor, m // divisor)


def alike(one, other):
    """Whether both stairs have the same height at every place."""
    # Of all stairs alike just one is the least, so comparing those two is enough.
    return least(one) == least(other)


def begun_at(stair, k):
    """The stair that has at each place the height that the given one has k places further on."""
    a, b, m = stair
    return (a, a * k + b, m)


def split(stair):
    """The tuple (rise, begin, rest) of which the stair's heights are put together."""
    need_stair(stair)
    a, b, m = stair
    return (a // m, b // m, (a % m, b % m, m))

"""Turned stairs, and the partner that has just the numbers that a stair leaves out."""

from stairsum.errors import NoPartner, NoRise
from stairsum.stairs import least, need_stair


def turned(stair):
    """The least stair that has at each place h the least place at which the given stair's height is h or more."""
    need_stair(stair)
    a, b, m = stair
    if a <= 0:
        raise NoRise("a stair is turned where a is above 0")
    # The height at k is h or more just where a k is m h - b or more.
    return least((m, a - 1 - b, a))


def partner(stair):
    """The least stair of the numbers that the given one leaves out."""
    need_stair(stair)
    a, b, m = stair
    if a <= m:
        raise NoPartner("a stair has a partner where a is above m")
    # Each h less the turned stair's height at h is the height at h of the stair (a - m, b, a). It goes on
    # to j + 1 just behind the number left out for j, so that number is one less than where the stair
    # (a - m, b, a) first is j + 1 or more.
    return least((a, a - 1 - b, a - m))

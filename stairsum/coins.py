"""How numbers are paid with two coins, and which numbers cannot be paid."""

from stairsum.errors import NoCoins
from stairsum.hits import first_within
from stairsum.stairs import common_divisor, is_whole
from stairsum.sums import height_sum


def need_coins(p, q):
    """Refuse what are no coins."""
    if not is_whole(p) or not is_whole(q) or p < 1 or q < 1:
        raise NoCoins("coins are whole numbers from 1 on")


def ways(p, q, c):
    """How many pairs of whole numbers x and y from 0 on there are for which p x + q y is c."""
    need_coins(p, q)
    # What is left over of c by x coins p has to be paid by coins q alone.
    x = first_within((p, -c, q), 0, 1)
    if x is None or p * x > c:
        return 0
    both = p * (q // common_divisor(p, q))
    return (c - p * x) // both + 1


def ways_to(p, q, c):
    """How many ways there are to pay the numbers from 0 to c, all together."""
    need_coins(p, q)
    if c < 0:
        return 0
    # With x coins p there may be no coin q, or one, or as many as fit into c - p x.
    return height_sum((-p, c + q, q), c // p + 1)


def last_unpaid(p, q):
    """The greatest number from 0 on that can't be paid, None where there is none or no greatest one."""
    need_coins(p, q)
    if p == 1 or q == 1 or common_divisor(p, q) > 1:
        return None
    return p * q - p - q


def many_unpaid(p, q):
    """How many numbers from 0 on can't be paid, None where they have no end."""
    need_coins(p, q)
    if common_divisor(p, q) > 1:
        return None
    return (p - 1) * (q - 1) // 2

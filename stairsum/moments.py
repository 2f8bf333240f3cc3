"""Sums of products of powers of places and heights, and sums of the rests and of their squares.

The way along a stair is put together of pieces. A piece is a tuple (on, up, sums): how many places
it passes, by how much it rises, and sums[p][q], the sum over its places of place to the power p
times height to the power q, both reckoned from where the piece begins.
"""

from stairsum.errors import NoPower
from stairsum.stairs import is_whole, need_stair, split
from stairsum.sums import need_count

MOST_POWER = 2
NOTHING = ((0, 0, 0), (0, 0, 0), (0, 0, 0))
STAY = (0, 0, NOTHING)
# One place, where the piece begins: there place and height are 0, and 1 to the power 0.
PLACE = (1, 0, ((1, 0, 0), (0, 0, 0), (0, 0, 0)))


def need_power(thing):
    """Refuse what is no power from 0 to 2."""
    if not is_whole(thing) or not 0 <= thing <= MOST_POWER:
        raise NoPower("a power is a whole number from 0 to 2")


def lift(by):
    """The piece that rises by so much and passes no place."""
    return (0, by, NOTHING)


def lifted(powers, by):
    """From the sums of the powers 0, 1 and 2 of some numbers those of the numbers that are so much more."""
    many, total, squares = powers
    return (many, total + by * many, squares + by * (2 * total + by * many))


def moved(sums, on, up):
    """The sums of a piece that begins so many places further on and so much higher."""
    rows = [lifted(row, up) for row in sums]
    columns = [lifted(column, on) for column in zip(*rows)]
    return list(zip(*columns))


def joined(one, other):
    """The piece that goes along the one, then along the other."""
    on, up, sums = one
    on_behind, up_behind, sums_behind = other
    added = []
    for row, behind in zip(sums, moved(sums_behind, on, up)):
        added.append((row[0] + behind[0], row[1] + behind[1], row[2] + behind[2]))
    return (on + on_behind, up + up_behind, added)


def repeated(piece, times):
    """The piece that goes along the given one so many times."""
    whole = STAY
    while times > 0:
        if times & 1 == 1:
            whole = joined(whole, piece)
        times = times // 2
        if times > 0:
            piece = joined(piece, piece)
    return whole


def way(stair, n, on, up):
    """The piece over the places 1 to n: at each the piece up as often as the height rises there, then on.

    The stair's begin b is from 0 to m - 1, so its height at the place 0 is 0.
    """
    a, b, m = stair
    left, right = STAY, STAY
    while True:
        on = joined(repeated(up, a // m), on)
        a = a % m
        top = (a * n + b) // m
        if top == 0:
            return joined(joined(left, repeated(on, n)), right)
        ahead, begin = divmod(m - b - 1, a)
        behind = n - (m * top - b - 1) // a
        left = joined(left, joined(repeated(on, ahead), up))
        right = joined(repeated(on, behind), right)
        # Between the first up and the last one, the ons ahead of each up make a stair again, on
        # which a and m are exchanged, and so are on and up.
        n, a, b, m = top - 1, m, begin, a
        on, up = up, on


def all_sums(stair, n):
    """The table of the moments over the places 0 to n - 1, by the powers p and q."""
    if n == 0:
        return NOTHING
    rise, begin, left = split(stair)
    first = joined(lift(begin), PLACE)
    behind = way(left, n - 1, joined(lift(rise), PLACE), lift(1))
    return joined(first, behind)[2]


def moment(stair, n, p, q):
    """The sum, over the places 0 to n - 1, of place to the power p times height to the power q."""
    need_stair(stair)
    need_count(n)
    need_power(p)
    need_power(q)
    return all_sums(stair, n)[p][q]


def rest_sums(stair, n):
    """The sum of the rests at the places 0 to n - 1, and the sum of their squares."""
    need_stair(stair)
    need_count(n)
    a, b, m = stair
    sums = all_sums(stair, n)
    # A rest is a k + b - m h: it and its square are put together of products of k and h.
    total = a * sums[1][0] + b * sums[0][0] - m * sums[0][1]
    squares = a * a * sums[2][0] + b * b * sums[0][0] + m * m * sums[0][2]
    doubled = a * b * sums[1][0] - a * m * sums[1][1] - b * m * sums[0][1]
    return (total, squares + 2 * doubled)

"""How many whole points lie within a ring of corners or on its rim.

A way leads from a corner to the next one. It is kept as a tuple (a, b, c) of whole numbers such that
a x + b y + c is above 0 for the points (x, y) at its left hand, and 0 on it.
"""

from stairsum.errors import NoRing
from stairsum.hits import up_divided
from stairsum.stairs import begun_at, common_divisor, height, is_whole, least
from stairsum.sums import height_sum

FEWEST_CORNERS = 3
MOST_CORNERS = 20


def is_fraction(thing):
    """Whether the thing is a tuple (top, bottom), bottom from 1 on, that no number above 1 divides."""
    if not isinstance(thing, tuple) or len(thing) != 2:
        return False
    top, bottom = thing
    return is_whole(top) and is_whole(bottom) and bottom >= 1 and common_divisor(top, bottom) == 1


def is_corner(thing):
    """Whether the thing is a tuple of two fractions."""
    return isinstance(thing, tuple) and len(thing) == 2 and all([is_fraction(part) for part in thing])


def widened(corner):
    """The corner's x and y with one bottom, as (x, y, bottom)."""
    (x, x_bottom), (y, y_bottom) = corner
    return (x * y_bottom, y * x_bottom, x_bottom * y_bottom)


def way_between(one, other):
    """The way from the one corner to the other."""
    x, y, bottom = widened(one)
    x_behind, y_behind, bottom_behind = widened(other)
    return (
        y * bottom_behind - bottom * y_behind, bottom * x_behind - x * bottom_behind, x * y_behind - y * x_behind)


def has_at_left(way, corner):
    """Whether the corner lies strictly at the left hand of the way."""
    a, b, c = way
    x, y, bottom = widened(corner)
    return a * x + b * y + c * bottom > 0


def is_ring(thing):
    """Whether the thing is a list of corners that goes round once, strictly to the left at each."""
    if not isinstance(thing, list) or not FEWEST_CORNERS <= len(thing) <= MOST_CORNERS:
        return False
    if not all([is_corner(part) for part in thing]):
        return False
    for at in range(len(thing)):
        one, other, *others = thing[at:] + thing[:at]
        way = way_between(one, other)
        if not all([has_at_left(way, corner) for corner in others]):
            return False
    return True


def need_ring(thing):
    """Refuse what is no ring."""
    if not is_ring(thing):
        raise NoRing("a ring has 3 to 20 corners, from each way between two of them all others strictly left")


def sides_of(ring):
    """The sides (left, right, is_top, stair) that do not go straight up or down; left and right are fractions.

    The stair's height at x is the greatest y below a top side, or on it; below other sides all is turned
    about: there it is the negative of the least y above the side, or on it.
    """
    sides = []
    for at, corner in enumerate(ring):
        before = ring[at - 1]
        a, b, c = way_between(before, corner)
        if b > 0:
            sides.append((before[0], corner[0], False, least((a, c, b))))
        if b < 0:
            sides.append((corner[0], before[0], True, least((a, c, -b))))
    return sides


def reach_of(sides, x, is_top):
    """The height at x of the stair of the side that is above x, or below it; None where there is none."""
    for left, right, top, stair in sides:
        if top == is_top and left[0] <= x * left[1] and x * right[1] <= right[0]:
            return height(stair, x)
    return None


def column_of(sides, x):
    """The least and the greatest whole y of the points at x, or None."""
    above = reach_of(sides, x, True)
    below = reach_of(sides, x, False)
    if above is None or below is None or above < -below:
        return None
    return (-below, above)


def points_over(side):
    """What the side adds to the number of points at the whole x from its left end on, ahead of its right end."""
    left, right, is_top, stair = side
    begin, end = up_divided(left[0], left[1]), up_divided(right[0], right[1])
    reach = height_sum(begun_at(stair, begin), end - begin)
    # From the least y to the greatest one there is one point more than the two are apart.
    return reach + end - begin if is_top else reach


def points_in(ring):
    """How many whole points lie within the ring or on its rim."""
    need_ring(ring)
    sides = sides_of(ring)
    total = sum([points_over(side) for side in sides])
    # Where the ring's right end is at a whole x no side has this one ahead of its end.
    end = max([up_divided(right[0], right[1]) for left, right, is_top, stair in sides])
    last = column_of(sides, end)
    return total if last is None else total + last[1] - last[0] + 1


def points_at(ring, x):
    """The least and the greatest y of the whole points at x within the ring or on its rim, None where there is none."""
    need_ring(ring)
    return column_of(sides_of(ring), x)

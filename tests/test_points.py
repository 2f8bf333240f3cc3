import unittest
from copy import deepcopy
from fractions import Fraction
from math import ceil, floor, gcd
from random import Random

from stairsum.errors import NoRing
from stairsum.points import points_at, points_in
from tests.samples import BIG, MOST, OTHER_BIG


def corner(x, y):
    """A corner of the numbers, which may be Python's own fractions."""
    x, y = Fraction(x), Fraction(y)
    return ((x.numerator, x.denominator), (y.numerator, y.denominator))


def ring_of(points):
    return [corner(x, y) for x, y in points]


def turn(one, other, third):
    """Above 0 where the third point lies left of the way from the one to the other."""
    return (other[0] - one[0]) * (third[1] - one[1]) - (other[1] - one[1]) * (third[0] - one[0])


def around(points):
    """The outer ones of the points, as a ring goes round them."""
    points = sorted(set(points))
    halves = []
    for row in (points, points[::-1]):
        half = []
        for point in row:
            while len(half) > 1 and turn(half[-2], half[-1], point) <= 0:
                half.pop()
            half.append(point)
        halves += half[:-1]
    return halves


def plain_points(points):
    """All whole points within, by trying each one about."""
    found = []
    xs, ys = [x for x, y in points], [y for x, y in points]
    ways = list(zip(points, points[1:] + points[:1]))
    for x in range(floor(min(xs)) - 1, ceil(max(xs)) + 2):
        for y in range(floor(min(ys)) - 1, ceil(max(ys)) + 2):
            if all(turn(one, other, (x, y)) >= 0 for one, other in ways):
                found.append((x, y))
    return found


def some_rings(seed, many, spread, bottoms):
    """Rings of three to five corners or so with fractions."""
    source = Random(seed)
    rings = []
    while len(rings) < many:
        points = []
        for each in range(source.choice((3, 4, 5, 7))):
            bottom = source.choice(bottoms)
            other = source.choice(bottoms)
            points.append((Fraction(source.randint(-spread * bottom, spread * bottom), bottom),
                           Fraction(source.randint(-spread * other, spread * other), other)))
        ring = around(points)
        if len(ring) > 2:
            rings.append(ring)
    return rings


HALF = Fraction(1, 2)
THIRD = Fraction(1, 3)

# Rings that are thin, or have no whole point, or sides straight up and down, at whole places or not.
EDGE_RINGS = [
    [(0, 0), (10, 1), (10, Fraction(11, 10))], [(0, HALF), (10, HALF), (5, 1)], [(0, 0), (7, 7), (0, Fraction(1, 7))],
    [(THIRD, THIRD), (2 * THIRD, THIRD), (HALF, 2 * THIRD)], [(HALF, 0), (Fraction(3, 4), -9), (Fraction(3, 4), 9)],
    [(-HALF, -5), (HALF, -5), (HALF, 5), (-HALF, 5)], [(0, 0), (1, 0), (1, 1), (0, 1)], [(0, 0), (3, 0), (3, 4)],
    [(0, 0), (1, 0), (0, 1)], [(-1, -1), (1, -1), (1, 1), (-1, 1)], [(0, THIRD), (3, THIRD), (3, 2 * THIRD)],
    [(-3, 0), (0, -3), (3, 0), (0, 3)], [(-HALF, 0), (0, -HALF), (HALF, 0), (0, HALF)],
    [(2, -7), (Fraction(9, 4), 0), (2, 7)], [(0, 0), (-1, 8), (-1, 7)], [(5, 5), (Fraction(51, 10), 5), (5, 6)],
    [(THIRD, 0), (9, Fraction(17, 2)), (THIRD, HALF)], [(-5, THIRD), (5, -THIRD), (5, 0), (-5, HALF)],
]
ROUND = [(k, k * k) for k in range(-10, 10)]
GREAT_RINGS = [
    [(0, 0), (BIG, 3), (7, OTHER_BIG)], [(-BIG, -OTHER_BIG), (OTHER_BIG, -BIG), (BIG, OTHER_BIG), (-OTHER_BIG, BIG)],
    [(0, 0), (BIG, 1), (BIG, 2)], [(k * (BIG // 400), k * k * (OTHER_BIG // 400) + k) for k in range(20)],
    [(k * 10 ** 95, k * k) for k in range(-9, 10)],
]
GREAT_FRACTIONS = [
    around([(Fraction(BIG, 7), Fraction(3, OTHER_BIG)), (Fraction(OTHER_BIG, 11), 0), (BIG, Fraction(OTHER_BIG, BIG))]),
    [(Fraction(-BIG, OTHER_BIG), Fraction(-OTHER_BIG, BIG)), (Fraction(BIG, 3), -7), (5, Fraction(BIG, 10 ** 40 + 3))],
    [(Fraction(k * BIG + 1, 10 ** 90 + k), Fraction(k * k * BIG - k, 10 ** 89 + 7)) for k in range(-9, 11)],
]


class Rings(unittest.TestCase):

    def check(self, points):
        ring = ring_of(points)
        found = plain_points(points)
        told = points_in(ring)
        self.assertIs(type(told), int)
        self.assertEqual(told, len(found), points)
        xs = [x for x, y in points]
        for x in range(floor(min(xs)) - 2, ceil(max(xs)) + 3):
            ys = [y for at, y in found if at == x]
            self.assertEqual(points_at(ring, x), (min(ys), max(ys)) if ys else None, (points, x))

    def test_told_numbers(self):
        self.assertEqual(points_in([((0, 1), (0, 1)), ((3, 1), (0, 1)), ((0, 1), (3, 1))]), 10)
        self.assertEqual(points_at([((0, 1), (0, 1)), ((3, 1), (0, 1)), ((0, 1), (3, 1))], 1), (0, 2))
        ring = [((1, 3), (-1, 2)), ((5, 2), (0, 1)), ((1, 3), (7, 2))]
        self.assertEqual((points_in(ring), points_at(ring, 1), points_at(ring, 2)), (4, (0, 2), (0, 0)))
        self.assertEqual((points_at(ring, 0), points_at(ring, 3)), (None, None))

    def test_edges(self):
        for points in EDGE_RINGS:
            self.check(points)

    def test_some_with_no_whole_point(self):
        self.assertEqual([points_in(ring_of(EDGE_RINGS[at])) for at in (1, 3, 4, 10)], [1, 0, 0, 0])
        ring = ring_of(EDGE_RINGS[10])
        self.assertEqual([points_at(ring, x) for x in range(-1, 5)], [None] * 6)

    def test_each_whole_point_tried(self):
        for points in some_rings(1, 250, 5, (1, 2, 3, 5, 7)) + some_rings(2, 100, 4, (1,)):
            self.check(points)
        for points in some_rings(3, 150, 2, (2, 3, 4, 11, 30)):
            self.check(points)

    def test_twenty_corners_tried(self):
        self.check([(Fraction(k, 3), Fraction(k * k, 9)) for k in range(-10, 10)])
        self.check(around([(round(20 * (1 - t * t) / (1 + t * t)), round(40 * t / (1 + t * t)))
                           for t in (0, .2, .5, .8, 1, 1.3, 2, 4, 9, -9, -4, -2, -1.3, -1, -.8, -.5, -.2)]))

    def test_begun_at_another_corner(self):
        for points in EDGE_RINGS + some_rings(4, 30, 5, (1, 2, 3)) + [ROUND] + GREAT_RINGS + GREAT_FRACTIONS:
            told = points_in(ring_of(points))
            x = floor(points[0][0])
            column = points_at(ring_of(points), x)
            for at in range(1, len(points)):
                ring = ring_of(points[at:] + points[:at])
                self.assertEqual((points_in(ring), points_at(ring, x)), (told, column))

    def test_moved_by_whole_steps_and_turned_by_a_quarter(self):
        for points in EDGE_RINGS + some_rings(5, 30, 5, (1, 2, 3)) + [ROUND] + GREAT_RINGS + GREAT_FRACTIONS:
            told = points_in(ring_of(points))
            for on, up in [(1, 0), (0, -1), (-17, 40), (BIG, -OTHER_BIG)]:
                moved = [(x + on, y + up) for x, y in points]
                self.assertEqual(points_in(ring_of(moved)), told)
                x = ceil(points[1][0])
                column = points_at(ring_of(points), x)
                plain = None if column is None else (column[0] + up, column[1] + up)
                self.assertEqual(points_at(ring_of(moved), x + on), plain)
            for each in range(3):
                points = [(-y, x) for x, y in points]
                self.assertEqual(points_in(ring_of(points)), told)

    def test_with_whole_corners_it_is_what_area_and_rim_tell(self):
        for points in some_rings(6, 100, 30, (1,)) + [ROUND] + GREAT_RINGS:
            ways = list(zip(points, points[1:] + points[:1]))
            doubled = sum(x * v - u * y for (x, y), (u, v) in ways)
            rim = sum(gcd(int(u - x), int(v - y)) for (x, y), (u, v) in ways)
            self.assertEqual(2 * points_in(ring_of(points)), doubled + rim + 2, points)

    def test_wider_than_any_count(self):
        ring = ring_of([(0, 0), (BIG, 0), (BIG, 1), (0, 1)])
        self.assertEqual(points_in(ring), 2 * BIG + 2)
        self.assertTrue(points_in(ring) > MOST)
        self.assertEqual(points_at(ring, BIG), (0, 1))
        self.assertIsNone(points_at(ring, BIG + 1))

    def test_great_numbers_at_some_columns(self):
        for points in GREAT_RINGS + GREAT_FRACTIONS:
            ring = ring_of(points)
            ways = list(zip(points, points[1:] + points[:1]))
            for x in (ceil(points[0][0]), floor(points[1][0]), (floor(points[0][0]) + floor(points[2][0])) // 2):
                column = points_at(ring, x)
                if column is not None:
                    for y in column:
                        self.assertTrue(all(turn(one, other, (x, y)) >= 0 for one, other in ways))
                    for y in (column[0] - 1, column[1] + 1):
                        self.assertTrue(any(turn(one, other, (x, y)) < 0 for one, other in ways))

    def test_a_great_ring_cut_in_two(self):
        # The two parts have just the points of the cut in common.
        for points in GREAT_RINGS + GREAT_FRACTIONS + some_rings(7, 30, 9, (1, 2, 5)):
            if len(points) > 3:
                first, second = points[:3], points[2:] + points[:1]
                whole = points_in(ring_of(points))
                parts = points_in(ring_of(first)) + points_in(ring_of(second))
                self.assertEqual(parts - whole, self.on_way(points[0], points[2]))

    def on_way(self, one, other):
        """How many whole points lie from the one to the other, both ends too."""
        (x, y), (u, v) = one, other
        # The line is a x + b y = c in whole numbers that only 1 divides.
        a, b, c = Fraction(v - y), Fraction(x - u), Fraction((v - y) * x + (x - u) * y)
        wide = a.denominator * b.denominator * c.denominator
        a, b, c = int(a * wide), int(b * wide), int(c * wide)
        divisor = gcd(a, b)
        if c % divisor != 0:
            return 0
        a, b, c = a // divisor, b // divisor, c // divisor
        if b == 0:
            return max(0, floor(max(y, v)) - ceil(min(y, v)) + 1)
        step = abs(b)
        first = c * pow(a, -1, step) % step if step > 1 else 0
        low, high = min(x, u), max(x, u)
        return (floor(high) - first) // step - (ceil(low) - 1 - first) // step

    def test_beside_the_ring_there_is_none(self):
        for points in EDGE_RINGS + GREAT_RINGS:
            ring = ring_of(points)
            xs = [x for x, y in points]
            for x in (floor(min(xs)) - 1, ceil(max(xs)) + 1, -BIG * BIG, BIG * BIG):
                self.assertIsNone(points_at(ring, x))

    def test_what_is_handed_in_stays(self):
        for points in EDGE_RINGS + [ROUND]:
            ring = ring_of(points)
            kept = deepcopy(ring)
            told = (points_in(ring), points_at(ring, 0), points_in(ring), points_at(ring, 0))
            self.assertEqual(ring, kept)
            self.assertEqual(told[:2], told[2:])


class NotRings(unittest.TestCase):

    def check(self, ring):
        kept = deepcopy(ring)
        self.assertRaises(NoRing, points_in, ring)
        for x in (0, 1, -BIG):
            self.assertRaises(NoRing, points_at, ring, x)
        self.assertEqual(ring, kept)

    def test_too_few_and_too_many_corners(self):
        self.check([])
        self.check(ring_of([(0, 0)]))
        self.check(ring_of([(0, 0), (3, 1)]))
        self.check(ring_of([(k, k * k) for k in range(21)]))
        self.check(ring_of([(k, k * k) for k in range(40)]))
        self.assertEqual(len(ROUND), 20)
        points_in(ring_of(ROUND))

    def test_corners_told_twice(self):
        square = [(0, 0), (4, 0), (4, 4), (0, 4)]
        for at in range(4):
            for behind in range(5):
                self.check(ring_of(square[:behind] + [square[at]] + square[behind:]))
        self.check(ring_of([(1, 2)] * 3))
        self.check(ring_of([(0, 0), (1, 1), (0, 0)]))

    def test_three_on_one_line(self):
        self.check(ring_of([(0, 0), (1, 1), (2, 2)]))
        self.check(ring_of([(0, 0), (2, 0), (4, 0), (4, 4), (0, 4)]))
        self.check(ring_of([(2, 0), (4, 0), (4, 4), (0, 4), (0, 0)]))
        self.check(ring_of([(0, 0), (4, 0), (2, 2), (0, 4)]))
        self.check(ring_of([(0, 0), (4, 0), (4, 4), (0, 4), (0, THIRD)]))

    def test_the_other_way_about(self):
        for points in EDGE_RINGS + [ROUND] + GREAT_RINGS + GREAT_FRACTIONS:
            self.check(ring_of(points[::-1]))

    def test_going_round_twice(self):
        self.check(ring_of([(0, 0), (4, 0), (0, 4)] * 2))
        # The five corners of a star, each left of the one ahead of it.
        self.check(ring_of([(0, 10), (-6, -8), (9, 3), (-9, 3), (6, -8)]))
        self.check(ring_of([(0, 0), (9, 0), (9, 9), (0, 9), (1, 1), (8, 1), (8, 8), (1, 8)]))

    def test_crossing_ways_and_hollows(self):
        self.check(ring_of([(0, 0), (4, 4), (4, 0), (0, 4)]))
        self.check(ring_of([(0, 0), (4, 0), (1, 1), (0, 4)]))
        self.check(ring_of([(0, 0), (4, 0), (4, 4), (3, 1)]))

    def test_what_is_no_list_of_corners(self):
        good = ring_of([(0, 0), (4, 0), (0, 4)])
        for part in [((2, 2), (0, 1)), ((4, 1), (0, 3)), ((4, 0), (0, 1)), ((4, -1), (0, 1)), ((4, 1),), ((4, 1), 0),
                     ((4, True), (0, 1)), ((4, 1), (False, 1)), ((4, 1), (0, 1), (0, 1)), ((4,), (0, 1)), (4, 0), None,
                     [(4, 1), (0, 1)], ([4, 1], (0, 1)), "41", (("4", 1), (0, 1)), ((4, 1, 1), (0, 1))]:
            self.check([good[0], part, good[2]])
        for thing in (None, True, 0, "", tuple(good), good[0], (good,)):
            self.check(thing)

    def test_just_off_the_line(self):
        tiny = Fraction(1, 10 ** 99)
        self.check(ring_of([(0, 0), (2, tiny), (4, 0), (4, 4)]))
        self.check(ring_of([(0, 0), (2, 0), (4, 0), (4, 4)]))
        # The corner is pushed out by so little that no whole point comes in by it.
        self.assertEqual(points_in(ring_of([(0, 0), (2, -tiny), (4, 0), (4, 4)])), 15)


if __name__ == "__main__":
    unittest.main()

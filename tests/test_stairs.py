import unittest
from math import gcd

from stairsum.errors import NoStair
from stairsum.stairs import alike, height, is_stair, least, rest, split
from tests.samples import BIG, BIG_STAIRS, NOT_STAIRS, OTHER_BIG, SMALL_STAIRS, plain_height

PLACES = list(range(-30, 31))
BIG_PLACES = [0, 1, -1, 17, -17, BIG, -BIG, OTHER_BIG, -OTHER_BIG]


def is_plain_int(thing):
    return type(thing) is int


class IsStair(unittest.TestCase):

    def test_stairs(self):
        for stair in SMALL_STAIRS + BIG_STAIRS + [(0, 0, 1), (-1, -1, 1), (5, 9, 2)]:
            self.assertIs(is_stair(stair), True, stair)

    def test_what_is_none(self):
        for thing in NOT_STAIRS:
            self.assertIs(is_stair(thing), False, thing)

    def test_deep_things(self):
        deep = ()
        for _ in range(50):
            deep = (deep, [deep], "x")
        self.assertIs(is_stair(deep), False)


class HeightAndRest(unittest.TestCase):

    def test_told_numbers(self):
        self.assertEqual([height((3, 1, 7), k) for k in range(-3, 6)], [-2, -1, -1, 0, 0, 1, 1, 1, 2])
        self.assertEqual([rest((3, 1, 7), k) for k in range(-3, 6)], [6, 2, 5, 1, 4, 0, 3, 6, 2])
        self.assertEqual([height((-2, -1, 3), k) for k in range(-2, 3)], [1, 0, -1, -1, -2])
        self.assertEqual([rest((-2, -1, 3), k) for k in range(-2, 3)], [0, 1, 2, 0, 1])
        self.assertEqual(height((4, -3, 1), -5), -23)
        self.assertEqual(rest((4, -3, 1), -5), 0)

    def check(self, stair, k):
        a, b, m = stair
        h = height(stair, k)
        left = rest(stair, k)
        self.assertTrue(is_plain_int(h) and is_plain_int(left))
        self.assertTrue(h * m <= a * k + b < (h + 1) * m, (stair, k))
        self.assertEqual(left, a * k + b - h * m, (stair, k))
        self.assertTrue(0 <= left <= m - 1, (stair, k))

    def test_small_ones(self):
        for stair in SMALL_STAIRS:
            for k in range(-9, 10):
                self.check(stair, k)

    def test_numbers_of_a_hundred_figures(self):
        for stair in BIG_STAIRS:
            for k in BIG_PLACES:
                self.check(stair, k)

    def test_what_is_no_stair_is_refused(self):
        for thing in NOT_STAIRS:
            for k in (0, -3, BIG):
                self.assertRaises(NoStair, height, thing, k)
                self.assertRaises(NoStair, rest, thing, k)


def small_heights(stair):
    """As many heights as tell any two of the small stairs here apart that are not alike."""
    return tuple(plain_height(stair, k) for k in PLACES)


class LeastAndAlike(unittest.TestCase):

    def test_told_stairs(self):
        self.assertEqual(least((6, 5, 4)), (3, 2, 2))
        self.assertEqual(least((3, 1, 7)), (3, 1, 7))
        self.assertEqual(least((0, 9, 5)), (0, 1, 1))
        self.assertEqual(least((0, -9, 5)), (0, -2, 1))
        self.assertEqual(least((0, 0, 5)), (0, 0, 1))
        self.assertEqual(least((-6, -5, 4)), (-3, -3, 2))
        self.assertEqual(least((-4, 7, 2)), (-2, 3, 1))
        self.assertEqual(least((4, 99, 6)), (2, 49, 3))
        self.assertEqual(least((6, 6, 6)), (1, 1, 1))

    def test_the_same_heights_at_places_of_either_sign(self):
        for stair in SMALL_STAIRS:
            told = least(stair)
            self.assertIs(type(told), tuple)
            self.assertIs(is_stair(told), True)
            self.assertEqual(small_heights(told), small_heights(stair), stair)

    def test_no_stair_of_a_lesser_m_has_the_heights(self):
        all_of = {}
        for stair in SMALL_STAIRS:
            all_of.setdefault(small_heights(stair), []).append(stair)
        for stair in SMALL_STAIRS:
            told = least(stair)
            same = all_of[small_heights(stair)]
            self.assertEqual([one for one in same if one[2] <= told[2]], [told], stair)

    def test_numbers_of_a_hundred_figures(self):
        for stair in BIG_STAIRS:
            a, b, m = stair
            for factor in (1, 6, 10 ** 40 + 1):
                wide = (a * factor, b * factor + factor - 1, m * factor)
                self.assertEqual(least(wide), least(stair))
                self.assertIs(alike(wide, stair), True)
                for k in BIG_PLACES:
                    self.assertEqual(plain_height(least(wide), k), plain_height(stair, k))

    def test_a_lift_that_shows_at_one_place_is_enough(self):
        for stair in BIG_STAIRS:
            a, b, m = stair
            lifted = (a, b + gcd(a, m), m)
            self.assertIs(alike(stair, lifted), False)
            self.assertIs(alike(lifted, stair), False)

    def test_least_of_the_least_is_itself(self):
        for stair in SMALL_STAIRS + BIG_STAIRS:
            self.assertEqual(least(least(stair)), least(stair))

    def test_alike_both_ways_about(self):
        stairs = [(a, b, m) for m in range(1, 5) for a in range(-4, 5) for b in range(-4, 7)]
        told = [small_heights(stair) for stair in stairs]
        for at, one in enumerate(stairs):
            for to, other in enumerate(stairs):
                self.assertIs(alike(one, other), told[at] == told[to], (one, other))

    def test_told_pairs(self):
        for one, other, told in [
                ((1, 0, 2), (2, 1, 4), True), ((1, 0, 2), (2, 2, 4), False), ((0, 3, 5), (0, 4, 9), True),
                ((0, -1, 5), (0, -9, 9), True), ((0, -1, 5), (0, 0, 9), False), ((-3, 8, 6), (-1, 2, 2), True),
                ((3, 1, 7), (3, 8, 7), False), ((3, 1, 7), (10, 1, 7), False), ((3, 1, 7), (-3, 1, 7), False)]:
            self.assertIs(alike(one, other), told, (one, other))
            self.assertIs(alike(other, one), told, (other, one))

    def test_what_is_no_stair_is_refused(self):
        for thing in NOT_STAIRS:
            self.assertRaises(NoStair, least, thing)
            self.assertRaises(NoStair, alike, thing, (1, 2, 3))
            self.assertRaises(NoStair, alike, (1, 2, 3), thing)
            self.assertRaises(NoStair, alike, thing, thing)


class Split(unittest.TestCase):

    def test_told_tuples(self):
        self.assertEqual(split((17, 9, 5)), (3, 1, (2, 4, 5)))
        self.assertEqual(split((-17, -9, 5)), (-4, -2, (3, 1, 5)))
        self.assertEqual(split((2, 4, 5)), (0, 0, (2, 4, 5)))
        self.assertEqual(split((5, 5, 5)), (1, 1, (0, 0, 5)))
        self.assertEqual(split((-3, 8, 1)), (-3, 8, (0, 0, 1)))

    def check(self, stair, places):
        told = split(stair)
        self.assertIs(type(told), tuple)
        rise, begin, left = told
        self.assertTrue(is_plain_int(rise) and is_plain_int(begin))
        self.assertIs(is_stair(left), True)
        self.assertEqual(left[2], stair[2])
        self.assertTrue(0 <= left[0] <= stair[2] - 1 and 0 <= left[1] <= stair[2] - 1, stair)
        for k in places:
            self.assertEqual(rise * k + begin + plain_height(left, k), plain_height(stair, k), (stair, k))

    def test_the_heights_come_out(self):
        for stair in SMALL_STAIRS:
            self.check(stair, range(-5, 6))
        for stair in BIG_STAIRS:
            self.check(stair, BIG_PLACES)

    def test_what_is_no_stair_is_refused(self):
        for thing in NOT_STAIRS:
            self.assertRaises(NoStair, split, thing)


if __name__ == "__main__":
    unittest.main()

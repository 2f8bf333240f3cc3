import unittest
from random import Random

from stairsum.errors import NoBounds, NoCount, NoStair, NothingLeft
from stairsum.hits import next_hit
from stairsum.sums import sum_of
from stairsum.walkers import Walker
from tests.samples import (
    BIG, GREAT_STAIRS, MOST, NOT_COUNTS, NOT_STAIRS, OTHER_BIG, bounds_of, great_bounds, not_bounds, plain_height,
    plain_rest)

STAIRS = [(3, 1, 7), (-4, 9, 11), (0, 5, 9), (17, -9, 5), (6, 1, 10), (-1, 0, 1), (34, 7, 55), (5, 5, 10)]


class PlainWalker:
    """A walker that reckons place by place and keeps every place where it stood."""

    def __init__(self, stair):
        self.stair = stair
        self.at = 0
        self.ahead = []

    def go(self, n):
        self.ahead.append(self.at)
        left = sum(plain_height(self.stair, k) for k in range(self.at, self.at + n))
        self.at += n
        return left

    def find(self, low, high):
        for on in range(self.stair[2]):
            if low <= plain_rest(self.stair, self.at + on) < high:
                self.ahead.append(self.at)
                self.at += on
                return on
        return None

    def back(self):
        self.at = self.ahead.pop()

    def told(self, bounds):
        places = range(self.at)
        within = [sum(1 for k in places if low <= plain_rest(self.stair, k) < high) for low, high in bounds]
        return [self.at, plain_height(self.stair, self.at), plain_rest(self.stair, self.at),
                sum(plain_height(self.stair, k) for k in places)] + within


def told_by(walker, bounds):
    often = [walker.often(low, high) for low, high in bounds]
    return [walker.place(), walker.height(), walker.rest(), walker.total()] + often


class Walkers(unittest.TestCase):

    def test_told_numbers(self):
        walker = Walker((3, 1, 7))
        self.assertEqual(told_by(walker, [(0, 7)]), [0, 0, 1, 0, 0])
        self.assertEqual(walker.go(5), 3)
        self.assertEqual(told_by(walker, [(0, 7), (1, 4)]), [5, 2, 2, 3, 5, 2])
        self.assertEqual(walker.find(5, 7), 1)
        self.assertEqual(told_by(walker, [(0, 7), (1, 4)]), [6, 2, 5, 5, 6, 3])
        self.assertIsNone(walker.find(4, 4))
        self.assertIsNone(walker.back())
        self.assertEqual(walker.place(), 5)
        self.assertIsNone(walker.back())
        self.assertEqual(told_by(walker, [(0, 7)]), [0, 0, 1, 0, 0])
        self.assertRaises(NothingLeft, walker.back)

    def test_two_walkers_place_by_place(self):
        source = Random(22)
        for one, other in [(stair, stair) for stair in STAIRS] + list(zip(STAIRS, STAIRS[1:])):
            pairs = [(Walker(stair), PlainWalker(stair), bounds_of(stair[2])) for stair in (one, other)]
            for step in range(60):
                walker, plain, bounds = source.choice(pairs)
                deed = source.choice("gggffb")
                if deed == "g":
                    n = source.choice((0, 1, 2, 7, 13))
                    self.assertEqual(walker.go(n), plain.go(n))
                elif deed == "f":
                    low, high = source.choice(bounds)
                    self.assertEqual(walker.find(low, high), plain.find(low, high), (plain.stair, low, high))
                elif plain.ahead:
                    self.assertIsNone(walker.back())
                    plain.back()
                else:
                    self.assertRaises(NothingLeft, walker.back)
                for walker, plain, bounds in pairs:
                    some = bounds[::9]
                    self.assertEqual(told_by(walker, some), plain.told(some))

    def test_to_go_or_to_find_by_0_places_is_a_deed(self):
        walker = Walker((3, 1, 7))
        walker.go(4)
        self.assertEqual(walker.go(0), 0)
        self.assertEqual(walker.find(6, 7), 0)
        self.assertEqual(walker.find(0, 7), 0)
        for each in range(3):
            walker.back()
            self.assertEqual(walker.place(), 4)
        walker.back()
        self.assertEqual(walker.place(), 0)
        self.assertRaises(NothingLeft, walker.back)

    def test_to_find_none_is_no_deed(self):
        for stair, low, high in [((3, 1, 7), 4, 4), ((0, 3, 7), 0, 3), ((6, 1, 10), 2, 3), ((6, 1, 10), 10, 10)]:
            walker = Walker(stair)
            self.assertIsNone(walker.find(low, high))
            self.assertRaises(NothingLeft, walker.back)
            walker.go(3)
            self.assertIsNone(walker.find(low, high))
            self.assertEqual(walker.place(), 3)
            walker.back()
            self.assertEqual(walker.place(), 0)
            self.assertRaises(NothingLeft, walker.back)

    def test_refusals_change_nothing(self):
        for stair in [(3, 1, 7), (-BIG, 3, OTHER_BIG), (0, 0, 1)]:
            walker = Walker(stair)
            bounds = [(0, stair[2]), (stair[2] // 2, stair[2])]
            for deeds in (0, 1, 2):
                kept = told_by(walker, bounds)
                for n in NOT_COUNTS:
                    self.assertRaises(NoCount, walker.go, n)
                for low, high in not_bounds(stair[2]):
                    self.assertRaises(NoBounds, walker.find, low, high)
                    self.assertRaises(NoBounds, walker.often, low, high)
                self.assertEqual(told_by(walker, bounds), kept)
                for each in range(deeds):
                    walker.back()
                for each in range(2):
                    self.assertRaises(NothingLeft, walker.back)
                self.assertEqual(walker.place(), 0)
                for each in range(deeds + 1):
                    walker.go(5)

    def test_thousands_of_deeds_taken_back_one_by_one(self):
        source = Random(2000)
        for stair in [(34, 7, 55), (BIG, 3, OTHER_BIG)]:
            m = stair[2]
            walker = Walker(stair)
            stood = []
            while len(stood) < 3000:
                here = (walker.place(), walker.height(), walker.rest())
                if source.choice((True, False)):
                    walker.go(source.choice((0, 1, 5, 10 ** 12)))
                    stood.append(here)
                elif walker.find(m // 3, m // 3 + source.choice((0, 1 + m // 9))) is not None:
                    stood.append(here)
            self.assertEqual(walker.total(), sum_of(stair, walker.place()))
            for here in stood[::-1]:
                walker.back()
                self.assertEqual((walker.place(), walker.height(), walker.rest()), here)
            self.assertEqual(walker.place(), 0)
            self.assertRaises(NothingLeft, walker.back)

    def test_great_stairs_and_the_greatest_counts(self):
        for stair in GREAT_STAIRS:
            walker = Walker(stair)
            self.assertEqual(walker.go(MOST), sum_of(stair, MOST))
            self.assertEqual((walker.place(), walker.total()), (MOST, sum_of(stair, MOST)))
            self.assertEqual(walker.height(), plain_height(stair, MOST))
            self.assertEqual(walker.rest(), plain_rest(stair, MOST))

    def test_further_on_than_any_count(self):
        for stair in GREAT_STAIRS:
            a, b, m = stair
            walker = Walker(stair)
            for low, high in great_bounds(m):
                here, total = walker.place(), walker.total()
                if low < high:
                    there = next_hit(stair, low, high, here)
                    on = walker.find(low, high)
                    self.assertEqual(on, None if there is None else there - here)
                if walker.place() == here:
                    continue
                self.assertTrue(low <= walker.rest() < high)
                self.assertEqual(walker.height(), plain_height(stair, walker.place()))
                # All rests are counted once.
                parts = [walker.often(0, low), walker.often(low, high), walker.often(high, m)]
                self.assertEqual(sum(parts), walker.place())
                walker.back()
                self.assertEqual(walker.often(low, high), parts[1])
                self.assertEqual(walker.total(), total)
                walker.find(low, high)
            for each in range(40):
                ahead = walker.total()
                left = walker.go(MOST - each)
                self.assertEqual(walker.total(), ahead + left)
            self.assertTrue(walker.place() > 39 * 10 ** 30)

    def test_sums_far_on_against_sums_by_squares(self):
        # Over whole turns of this stair the heights are known without going there.
        walker = Walker((1, 0, 2))
        for each in range(50):
            walker.go(10 ** 30 - 2)
        half = 25 * (10 ** 30 - 2)
        self.assertEqual(walker.total(), half * (half - 1))
        self.assertEqual(walker.often(1, 2), half)

    def test_however_it_came_there_the_same_is_told(self):
        for stair in STAIRS:
            bounds = bounds_of(stair[2])[::5]
            first, second, third = Walker(stair), Walker(stair), Walker(stair)
            first.go(60)
            for each in range(30):
                second.go(1)
                second.find(0, stair[2])
                second.go(1)
            third.go(MOST)
            third.back()
            third.go(17)
            third.go(43)
            self.assertEqual(told_by(first, bounds), told_by(second, bounds))
            self.assertEqual(told_by(first, bounds), told_by(third, bounds))

    def test_what_is_no_stair_is_refused(self):
        for thing in NOT_STAIRS:
            self.assertRaises(NoStair, Walker, thing)

    def test_the_methods_stand_in_the_class_itself(self):
        for name in ("go", "find", "back", "place", "height", "rest", "total", "often"):
            self.assertIn(name, vars(Walker))


if __name__ == "__main__":
    unittest.main()

import unittest
from math import gcd

from stairsum.counts import often
from stairsum.errors import NoBounds, NoCount, NoStair
from stairsum.hits import first_hit, hit, next_hit
from stairsum.sums import sum_of
from tests.samples import (
    BIG, FIBONACCI, GREAT_STAIRS, MOST, NOT_COUNTS, NOT_STAIRS, OTHER_BIG, SMALL_STAIRS, bounds_of, great_bounds,
    not_bounds, plain_rest)

WIDER_STAIRS = [
    (a, b, m) for m, b in [(34, 5), (55, -3), (60, 59)] for a in (1, -1, 7, -13, 21, 24, 30, 33, 45, 100)]
NO_HITS = [((3, 1, 7), 4, 4), ((0, 3, 7), 0, 3), ((0, 3, 7), 4, 7), ((6, 1, 10), 2, 3), ((6, 1, 10), 4, 5)]


def some_bounds(m):
    return bounds_of(m)[::7] + [(0, m), (0, 1), (m - 1, m), (1, m), (m // 2, m // 2 + 1)]


def places_within(stair, low, high, places):
    return [k for k in places if low <= plain_rest(stair, k) < high]


class FirstHit(unittest.TestCase):

    def check(self, stair, bounds):
        rests = [plain_rest(stair, k) for k in range(stair[2])]
        for low, high in bounds:
            within = [k for k, left in enumerate(rests) if low <= left < high]
            self.assertEqual(first_hit(stair, low, high), within[0] if within else None, (stair, low, high))

    def test_told_places(self):
        # The rests of this stair at the places 0 to 6 are 1, 4, 0, 3, 6, 2, 5.
        self.assertEqual([first_hit((3, 1, 7), low, low + 1) for low in range(7)], [2, 0, 5, 3, 1, 6, 4])
        self.assertEqual(first_hit((3, 1, 7), 0, 7), 0)
        self.assertEqual(first_hit((3, 1, 7), 5, 7), 4)
        self.assertIsNone(first_hit((3, 1, 7), 3, 3))

    def test_small_stairs_through_a_period(self):
        for stair in SMALL_STAIRS:
            self.check(stair, bounds_of(stair[2]))

    def test_wider_stairs_through_a_period(self):
        for stair in WIDER_STAIRS:
            self.check(stair, some_bounds(stair[2]))

    def test_none_where_none_is_within(self):
        for stair, low, high in NO_HITS:
            self.assertIsNone(first_hit(stair, low, high))
        for stair in GREAT_STAIRS:
            m = stair[2]
            for x in (0, m // 2, m):
                self.assertIsNone(first_hit(stair, x, x))
        # All rests here are odd.
        self.assertIsNone(first_hit((2 * BIG, 1, 2 * OTHER_BIG), 2 * BIG, 2 * BIG + 1))

    def test_what_is_no_bounds_is_refused(self):
        for stair in [(3, 1, 7), (0, 0, 1), (-5, 9, 2), (BIG, 3, OTHER_BIG)]:
            for low, high in not_bounds(stair[2]):
                self.assertRaises(NoBounds, first_hit, stair, low, high)

    def test_what_is_no_stair_is_refused_ahead_of_all_else(self):
        for thing in NOT_STAIRS:
            for low, high in [(0, 0), (0, 1), (-1, 0), (1, 0), (0, BIG)]:
                self.assertRaises(NoStair, first_hit, thing, low, high)


class GreatStairs(unittest.TestCase):

    def ahead(self, stair, low, high, k, n):
        """How many places are within among the n from k on, n perhaps more than a count."""
        a, b, m = stair
        behind = (a, b + a * k, m)
        total = 0
        while n > 0:
            many = min(n, MOST)
            total += often(behind, many, low, high)
            behind = (a, behind[1] + a * many, m)
            n -= many
        return total

    def test_told_at_once_and_none_ahead_is_within(self):
        asked = 0
        for stair in GREAT_STAIRS:
            m = stair[2]
            for low, high in great_bounds(m):
                if low >= high:
                    continue
                for k in (0, 1, -BIG, OTHER_BIG):
                    place = next_hit(stair, low, high, k)
                    if k == 0:
                        self.assertEqual(first_hit(stair, low, high), place)
                    if place is not None:
                        self.assertTrue(place >= k)
                        self.assertTrue(low <= plain_rest(stair, place) < high, (stair, low, high, k))
                        if place - k < 20 * MOST:
                            asked += 1
                            self.assertEqual(self.ahead(stair, low, high, k, place - k), 0, (stair, low, high, k))
        self.assertTrue(asked > 300, asked)

    def test_a_single_rest(self):
        # Where only 1 divides a and m there is one such place in a period, told by the common divisor's steps.
        for a, b, m in [(BIG, OTHER_BIG, 10 ** 99 - 2), (FIBONACCI[-2], 5, FIBONACCI[-1]), (-3, BIG, 10 ** 99)]:
            self.assertEqual(gcd(a, m), 1)
            for left in (0, 1, m // 2, m - 1):
                place = (left - b) * pow(a, -1, m) % m
                self.assertEqual(first_hit((a, b, m), left, left + 1), place)
                self.assertEqual(next_hit((a, b, m), left, left + 1, place), place)
                self.assertEqual(next_hit((a, b, m), left, left + 1, place + 1), place + m)
                self.assertEqual(next_hit((a, b, m), left, left + 1, place - m), place - m)
                self.assertEqual(hit((a, b, m), left, left + 1, MOST), place + m * MOST)

    def test_the_hit_of_each_number(self):
        for stair in GREAT_STAIRS:
            m = stair[2]
            for low, high in great_bounds(m):
                if low >= high or first_hit(stair, low, high) is None:
                    continue
                for n in (0, 1, 2, 1000, 10 ** 17 + 9):
                    place = hit(stair, low, high, n)
                    self.assertTrue(low <= plain_rest(stair, place) < high, (stair, low, high, n))
                    if place < MOST:
                        self.assertEqual(often(stair, place, low, high), n, (stair, low, high, n))
                self.assertEqual(hit(stair, low, high, 0), first_hit(stair, low, high))

    def test_the_greatest_number(self):
        for stair in GREAT_STAIRS:
            a, b, m = stair
            for low, high in great_bounds(m):
                if low >= high or first_hit(stair, low, high) is None:
                    continue
                last, place = hit(stair, low, high, MOST - 1), hit(stair, low, high, MOST)
                self.assertEqual(next_hit(stair, low, high, last + 1), place, (stair, low, high))
                # The hits behind number 10 ** 20 are numbered anew on the stair that begins there.
                begin = hit(stair, low, high, 10 ** 20)
                behind = hit((a, b + a * begin, m), low, high, MOST - 10 ** 20)
                self.assertEqual(begin + behind, place, (stair, low, high))

    def test_the_greatest_number_is_counted(self):
        for stair in GREAT_STAIRS:
            m = stair[2]
            if m > 10:
                for low, high in [(0, m // 2), (1, m), (0, m - 1), (m // 3, m - m // 5)]:
                    place = hit(stair, low, high, MOST)
                    if place is not None and place < 20 * MOST:
                        self.assertEqual(self.ahead(stair, low, high, 0, place), MOST, (stair, low, high))

    def test_over_a_period_the_places_are_all_there_are(self):
        # Over a period of 10007 places the hits' places are just those that are within.
        for a in (1, -1, 5000, 6184, -3822, 101):
            stair = (a, 77, 10007)
            for low, high in [(0, 5), (5000, 5400), (1, 10007), (10000, 10007)]:
                within = places_within(stair, low, high, range(10007))
                told = [hit(stair, low, high, n) for n in range(0, len(within), 37)]
                self.assertEqual(told, within[::37])
                self.assertEqual(hit(stair, low, high, len(within)), within[0] + 10007)


class Hit(unittest.TestCase):

    def check(self, stair, low, high, numbers):
        m = stair[2]
        within = places_within(stair, low, high, range(m))
        for n in numbers:
            told = hit(stair, low, high, n)
            if not within:
                self.assertIsNone(told)
            else:
                self.assertIs(type(told), int)
                plain = within[n % len(within)] + m * (n // len(within))
                self.assertEqual(told, plain, (stair, low, high, n))

    def test_told_places(self):
        # The rests of this stair at the places 0 to 6 are 1, 4, 0, 3, 6, 2, 5.
        self.assertEqual([hit((3, 1, 7), 1, 4, n) for n in range(7)], [0, 3, 5, 7, 10, 12, 14])
        self.assertEqual([hit((3, 1, 7), 6, 7, n) for n in range(3)], [4, 11, 18])
        self.assertEqual(hit((3, 1, 7), 0, 7, MOST), MOST)
        self.assertEqual(hit((0, 3, 7), 3, 4, MOST), MOST)

    def test_small_stairs_through_periods(self):
        for stair in SMALL_STAIRS[::2]:
            for low, high in bounds_of(stair[2]):
                self.check(stair, low, high, (0, 1, 2, 3, 5, 8, 13, MOST - 1, MOST))

    def test_wider_stairs_through_periods(self):
        for stair in WIDER_STAIRS:
            for low, high in some_bounds(stair[2])[::5]:
                self.check(stair, low, high, list(range(0, 130, 3)) + [10 ** 15, MOST - 1, MOST])

    def test_none_where_there_is_no_hit_at_all(self):
        for stair, low, high in NO_HITS:
            for n in (0, 1, MOST):
                self.assertIsNone(hit(stair, low, high, n))

    def test_the_same_asked_again(self):
        told = [hit((34, 7, 55), 3, 9, n) for n in (0, 5, 10 ** 20)]
        self.assertEqual([hit((34, 7, 55), 3, 9, n) for n in (0, 5, 10 ** 20)], told)

    def test_what_is_no_count_is_refused(self):
        for n in NOT_COUNTS:
            for low, high in [(0, 7), (2, 3), (0, 1)]:
                self.assertRaises(NoCount, hit, (3, 1, 7), low, high, n)

    def test_what_is_no_count_is_refused_where_there_is_no_hit(self):
        for stair, low, high in NO_HITS:
            for n in NOT_COUNTS:
                self.assertRaises(NoCount, hit, stair, low, high, n)

    def test_what_is_no_bounds_is_refused_ahead_of_no_count(self):
        for stair in [(3, 1, 7), (0, 0, 1), (-5, 9, 2), (BIG, 3, OTHER_BIG)]:
            for low, high in not_bounds(stair[2]):
                for n in [0, MOST] + NOT_COUNTS:
                    self.assertRaises(NoBounds, hit, stair, low, high, n)

    def test_what_is_no_stair_is_refused_ahead_of_all_else(self):
        for thing in NOT_STAIRS:
            for n in [0, MOST] + NOT_COUNTS:
                for low, high in [(0, 0), (0, 1), (-1, 0), (1, 0), (0, BIG)]:
                    self.assertRaises(NoStair, hit, thing, low, high, n)


class NextHit(unittest.TestCase):

    def check(self, stair, low, high, k):
        within = places_within(stair, low, high, range(k, k + stair[2]))
        self.assertEqual(next_hit(stair, low, high, k), within[0] if within else None, (stair, low, high, k))

    def test_told_places(self):
        # The rests of this stair at the places -3 to 5 are 6, 2, 5, 1, 4, 0, 3, 6, 2.
        self.assertEqual([next_hit((3, 1, 7), 6, 7, k) for k in range(-4, 5)], [-3, -3, 4, 4, 4, 4, 4, 4, 4])
        self.assertEqual([next_hit((3, 1, 7), 1, 4, k) for k in range(-3, 4)], [-2, -2, 0, 0, 3, 3, 3])
        self.assertIsNone(next_hit((3, 1, 7), 4, 4, -5))

    def test_small_stairs_from_places_of_either_sign(self):
        for stair in SMALL_STAIRS[::3]:
            for low, high in bounds_of(stair[2]):
                for k in (-9, -1, 0, 1, 4):
                    self.check(stair, low, high, k)

    def test_wider_stairs_from_places_of_either_sign(self):
        for stair in WIDER_STAIRS:
            for low, high in some_bounds(stair[2])[::9]:
                for k in (-70, -1, 0, 1, 33, BIG, -BIG):
                    self.check(stair, low, high, k)

    def test_none_where_none_is_within(self):
        for stair, low, high in NO_HITS:
            for k in (-BIG, -1, 0, 5, BIG):
                self.assertIsNone(next_hit(stair, low, high, k))

    def test_a_place_that_was_told_may_be_handed_in(self):
        stair, low, high = (BIG, 3, OTHER_BIG), 0, BIG
        place = hit(stair, low, high, MOST)
        self.assertTrue(place > MOST)
        self.assertEqual(next_hit(stair, low, high, place), place)
        further = next_hit(stair, low, high, -sum_of((BIG, 3, 1), MOST))
        self.assertTrue(low <= plain_rest(stair, further) < high)

    def test_what_is_no_bounds_is_refused(self):
        for stair in [(3, 1, 7), (0, 0, 1), (-5, 9, 2), (BIG, 3, OTHER_BIG)]:
            for low, high in not_bounds(stair[2]):
                for k in (0, -3, BIG):
                    self.assertRaises(NoBounds, next_hit, stair, low, high, k)

    def test_what_is_no_stair_is_refused_ahead_of_all_else(self):
        for thing in NOT_STAIRS:
            for low, high in [(0, 0), (0, 1), (-1, 0), (1, 0), (0, BIG)]:
                self.assertRaises(NoStair, next_hit, thing, low, high, 5)


if __name__ == "__main__":
    unittest.main()

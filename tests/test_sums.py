import unittest
from math import gcd

from stairsum.errors import NoCount, NoStair, TooMany
from stairsum.sums import heights, sum_of
from tests.samples import (
    BIG, BIG_STAIRS, MOST, NOT_COUNTS, NOT_STAIRS, OTHER_BIG, SMALL_STAIRS, plain_height, plain_sum)


class Heights(unittest.TestCase):

    def test_told_lists(self):
        self.assertEqual(heights((3, 1, 7), 0, 6), [0, 0, 1, 1, 1, 2])
        self.assertEqual(heights((3, 1, 7), -3, 4), [-2, -1, -1, 0])
        self.assertEqual(heights((-2, -1, 3), -2, 5), [1, 0, -1, -1, -2])
        self.assertEqual(heights((5, 2, 1), 4, 1), [22])

    def test_from_places_of_either_sign(self):
        for stair in SMALL_STAIRS[::7]:
            for k in (-6, -1, 0, 1, 5):
                for n in (0, 1, 2, 9):
                    self.assertEqual(heights(stair, k, n), [plain_height(stair, k + on) for on in range(n)])

    def test_numbers_of_a_hundred_figures(self):
        for stair in BIG_STAIRS:
            for k in (BIG, -OTHER_BIG):
                self.assertEqual(heights(stair, k, 5), [plain_height(stair, k + on) for on in range(5)])

    def test_none_and_the_most(self):
        self.assertEqual(heights((3, 1, 7), 5, 0), [])
        told = heights((3, 1, 7), -1000, 2000)
        self.assertEqual(told, [plain_height((3, 1, 7), k) for k in range(-1000, 1000)])

    def test_too_many(self):
        for n in (2001, 2002, 10 ** 9, MOST):
            self.assertRaises(TooMany, heights, (3, 1, 7), 0, n)

    def test_what_is_no_count_is_refused_ahead_of_too_many(self):
        for n in NOT_COUNTS:
            self.assertRaises(NoCount, heights, (3, 1, 7), 0, n)

    def test_what_is_no_stair_is_refused_ahead_of_all_else(self):
        for thing in NOT_STAIRS:
            for n in [0, 3, 2001] + NOT_COUNTS:
                self.assertRaises(NoStair, heights, thing, 0, n)

    def test_each_list_is_the_askers_own(self):
        first = heights((3, 1, 7), 0, 6)
        second = heights((3, 1, 7), 0, 6)
        self.assertIs(type(first), list)
        first.append(99)
        first[0] = "changed"
        self.assertEqual(second, [0, 0, 1, 1, 1, 2])
        self.assertEqual(heights((3, 1, 7), 0, 6), [0, 0, 1, 1, 1, 2])
        empty = heights((3, 1, 7), 0, 0)
        empty.append(1)
        self.assertEqual(heights((3, 1, 7), 0, 0), [])


class SumOf(unittest.TestCase):

    def test_told_sums(self):
        self.assertEqual(sum_of((3, 1, 7), 6), 5)
        self.assertEqual(sum_of((1, 0, 1), 11), 55)
        self.assertEqual(sum_of((-1, 0, 1), 11), -55)
        self.assertEqual(sum_of((0, -1, 2), 5), -5)
        self.assertEqual(sum_of((0, 7, 2), 5), 15)

    def test_heights_added_one_by_one(self):
        for stair in SMALL_STAIRS:
            total = 0
            for n in range(13):
                self.assertEqual(sum_of(stair, n), total, (stair, n))
                total += plain_height(stair, n)

    def test_wider_stairs_added_one_by_one(self):
        for a in (0, 1, 13, 34, 55, 88, 89, 90, 377, -1, -34, -200):
            for b in (0, 1, 88, 89, 500, -1, -89, -501):
                for n in (89, 200):
                    self.assertEqual(sum_of((a, b, 89), n), plain_sum((a, b, 89), n), (a, b, n))

    def test_counts_at_the_edges(self):
        for stair in SMALL_STAIRS[::11] + BIG_STAIRS:
            self.assertEqual(sum_of(stair, 0), 0)
            self.assertEqual(sum_of(stair, 1), plain_height(stair, 0))
        self.assertEqual(sum_of((1, 0, 1), MOST), MOST * (MOST - 1) // 2)
        self.assertEqual(sum_of((-1, 5, 1), MOST), 5 * MOST - MOST * (MOST - 1) // 2)
        # 10 ** 30 - 1 is odd: the last place is the first of a pair that has no second one.
        half = (MOST - 1) // 2
        self.assertEqual(sum_of((1, 0, 2), MOST), half * (half - 1) + half)

    def test_over_a_whole_turn(self):
        # Over m places the rests are b and all that is a multiple of the divisor away from it, equally often.
        for a, b, m in [(BIG, OTHER_BIG, 10 ** 29 + 1), (-BIG, 3, 10 ** 30 - 1), (10 ** 28 + 3, 0, 10 ** 30 - 7)]:
            divisor = gcd(a, m)
            rests = m * (b % divisor) + divisor * m * (m // divisor - 1) // 2
            whole = a * (m * (m - 1) // 2) + b * m
            self.assertEqual(sum_of((a, b, m), m) * m, whole - rests)

    def test_numbers_of_a_hundred_figures_with_the_greatest_counts(self):
        for stair in BIG_STAIRS:
            a, b, m = stair
            last = sum(plain_height(stair, k) for k in range(MOST - 50, MOST))
            self.assertEqual(sum_of(stair, MOST) - sum_of(stair, MOST - 50), last, stair)
            for n in (1, 10 ** 15 + 3, 7 * 10 ** 29):
                behind = sum_of((a, b + a * n, m), MOST - n)
                self.assertEqual(sum_of(stair, n) + behind, sum_of(stair, MOST), (stair, n))
            turned_about = sum_of((-a, b + a * (MOST - 1), m), MOST)
            self.assertEqual(turned_about, sum_of(stair, MOST), stair)

    def test_sums_of_hundred_figures_added_one_by_one(self):
        for stair in BIG_STAIRS:
            self.assertEqual(sum_of(stair, 40), plain_sum(stair, 40), stair)

    def test_the_same_asked_again(self):
        self.assertEqual(sum_of((3, 1, 7), 10 ** 20), sum_of((3, 1, 7), 10 ** 20))

    def test_what_is_no_count_is_refused(self):
        for n in NOT_COUNTS:
            self.assertRaises(NoCount, sum_of, (3, 1, 7), n)

    def test_what_is_no_stair_is_refused_ahead_of_all_else(self):
        for thing in NOT_STAIRS:
            for n in [0, 3, MOST] + NOT_COUNTS:
                self.assertRaises(NoStair, sum_of, thing, n)


if __name__ == "__main__":
    unittest.main()

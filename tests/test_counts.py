import unittest

from stairsum.counts import often
from stairsum.errors import NoBounds, NoCount, NoStair
from tests.samples import (
    BIG, GREAT_STAIRS, MOST, NOT_COUNTS, NOT_STAIRS, OTHER_BIG, SMALL_STAIRS, bounds_of, great_bounds, not_bounds,
    plain_rest)


class Often(unittest.TestCase):

    def check(self, stair, counts, bounds):
        rests = [plain_rest(stair, k) for k in range(max(counts))]
        for n in counts:
            for low, high in bounds:
                told = often(stair, n, low, high)
                self.assertIs(type(told), int)
                plain = len([left for left in rests[:n] if low <= left < high])
                self.assertEqual(told, plain, (stair, n, low, high))

    def test_told_numbers(self):
        # The rests of this stair at the places 0 to 6 are 1, 4, 0, 3, 6, 2, 5.
        self.assertEqual(often((3, 1, 7), 5, 1, 4), 2)
        self.assertEqual(often((3, 1, 7), 5, 0, 1), 1)
        self.assertEqual(often((3, 1, 7), 2, 0, 1), 0)
        self.assertEqual(often((3, 1, 7), 7, 3, 7), 4)
        self.assertEqual(often((3, 1, 7), 7 * 10 ** 28, 3, 7), 4 * 10 ** 28)

    def test_small_stairs_one_by_one(self):
        for stair in SMALL_STAIRS[::2]:
            self.check(stair, (0, 1, 2, 11), bounds_of(stair[2]))

    def test_wider_stairs_one_by_one(self):
        bounds = [(0, 89), (0, 1), (88, 89), (0, 44), (44, 89), (13, 14), (20, 75), (5, 5), (89, 89), (0, 0)]
        for a in (0, 1, 34, 55, 88, 377, -1, -34, -200):
            for b in (0, 1, 88, 500, -1, -501):
                self.check((a, b, 89), (0, 1, 89, 300), bounds)
                self.check((2 * a, b, 90), (0, 1, 90, 300), bounds)

    def test_great_stairs_one_by_one(self):
        for stair in GREAT_STAIRS:
            if stair[2] > 10 ** 20:
                self.check(stair, (0, 1, 60), great_bounds(stair[2]))

    def test_the_widest_bounds_tell_the_count_and_the_narrowest_0(self):
        for stair in SMALL_STAIRS[::11] + GREAT_STAIRS:
            m = stair[2]
            for n in (0, 1, 10 ** 15 + 3, MOST):
                self.assertEqual(often(stair, n, 0, m), n)
                for x in (0, 1, m // 2, m - 1, m):
                    self.assertEqual(often(stair, n, x, x), 0)

    def test_bounds_one_behind_the_other_add_up(self):
        for stair in GREAT_STAIRS:
            m = stair[2]
            marks = [0, m // 10 ** 31, m // 10 ** 25, m // 7, m // 3, m // 3 + m // 10 ** 20, m // 2, m - m // 9, m]
            for n in (17, 10 ** 20, MOST):
                parts = [often(stair, n, low, high) for low, high in zip(marks, marks[1:])]
                self.assertTrue(all(0 <= part <= n for part in parts))
                self.assertEqual(sum(parts), n, (stair, n))

    def test_one_place_more_is_counted_where_it_is_within(self):
        for stair in GREAT_STAIRS:
            m = stair[2]
            for n in (1, 10 ** 15 + 3, MOST - 1):
                left = plain_rest(stair, n)
                for low, high in [(left, left + 1), (0, left + 1), (left, m), (0, left), (left + 1, m)]:
                    more = often(stair, n + 1, low, high) - often(stair, n, low, high)
                    self.assertEqual(more, 1 if low <= left < high else 0, (stair, n, low, high))

    def test_whole_periods(self):
        # 10 ** 20 + 1 has no divisor with a in common, so each rest is there once in a period.
        m = 10 ** 20 + 1
        for a in (1, -1, 10 ** 19 + 2, BIG * m + 2):
            for low, high in [(0, 1), (5, 10 ** 17), (m // 2, m), (m - 1, m)]:
                self.assertEqual(often((a, OTHER_BIG, m), m * 10 ** 9, low, high), (high - low) * 10 ** 9)

    def test_the_same_asked_again(self):
        self.assertEqual(often((34, 7, 55), 10 ** 20, 3, 9), often((34, 7, 55), 10 ** 20, 3, 9))

    def test_what_is_no_bounds_is_refused(self):
        for stair in [(3, 1, 7), (0, 0, 1), (-5, 9, 2), (BIG, 3, OTHER_BIG)]:
            for low, high in not_bounds(stair[2]):
                for n in (0, 1, MOST):
                    self.assertRaises(NoBounds, often, stair, n, low, high)

    def test_what_is_no_count_is_refused_ahead_of_no_bounds(self):
        for n in NOT_COUNTS:
            for low, high in [(0, 7), (2, 2)] + not_bounds(7):
                self.assertRaises(NoCount, often, (3, 1, 7), n, low, high)

    def test_what_is_no_stair_is_refused_ahead_of_all_else(self):
        for thing in NOT_STAIRS:
            for n in [0, MOST] + NOT_COUNTS:
                for low, high in [(0, 0), (0, 1), (-1, 0), (1, 0), (0, BIG)]:
                    self.assertRaises(NoStair, often, thing, n, low, high)


if __name__ == "__main__":
    unittest.main()

import unittest
from math import gcd

from stairsum.errors import NoCount, NoPower, NoStair
from stairsum.moments import moment, rest_sums
from stairsum.sums import sum_of
from tests.samples import (
    BIG, GREAT_STAIRS, MOST, NOT_COUNTS, NOT_POWERS, NOT_STAIRS, SMALL_STAIRS, plain_height, plain_rest)

PAIRS = [(p, q) for p in range(3) for q in range(3)]
WIDER_STAIRS = [
    (a, b, 89) for a in (0, 1, 34, 55, 88, 89, 377, -1, -34, -200) for b in (0, 1, 88, 500, -1, -89, -501)]


def product(stair, k, p, q):
    return k ** p * plain_height(stair, k) ** q


class Moment(unittest.TestCase):

    def check_all(self, stair, counts):
        """All nine pairs of powers against the products added one by one."""
        totals = {pair: 0 for pair in PAIRS}
        for n in range(max(counts) + 1):
            if n in counts:
                for p, q in PAIRS:
                    told = moment(stair, n, p, q)
                    self.assertIs(type(told), int)
                    self.assertEqual(told, totals[p, q], (stair, n, p, q))
            for p, q in PAIRS:
                totals[p, q] += product(stair, n, p, q)

    def test_told_moments(self):
        # The heights of this stair at the places 0 to 5 are 0, 0, 1, 1, 1, 2.
        told = {(0, 0): 6, (0, 1): 5, (0, 2): 7, (1, 0): 15, (1, 1): 19, (1, 2): 29,
                (2, 0): 55, (2, 1): 79, (2, 2): 129}
        for p, q in PAIRS:
            self.assertEqual(moment((3, 1, 7), 6, p, q), told[p, q])
        # And of this one they are -1, -1, -2, -3, -3.
        told = {(0, 1): -10, (0, 2): 24, (1, 1): -26, (1, 2): 72, (2, 1): -84, (2, 2): 1 + 16 + 81 + 144}
        for p, q in told:
            self.assertEqual(moment((-2, -1, 3), 5, p, q), told[p, q])

    def test_small_stairs_of_either_sign(self):
        for stair in SMALL_STAIRS[::3]:
            self.check_all(stair, (0, 1, 2, 3, 12))

    def test_some_hundreds_of_places(self):
        for stair in WIDER_STAIRS:
            self.check_all(stair, (0, 1, 89, 300))

    def test_none_of_any_number_to_the_power_0_is_left_out(self):
        for p in range(3):
            for q in range(3):
                self.assertEqual(moment((0, 0, 1), 1, p, q), 1 if p == q == 0 else 0)
                self.assertEqual(moment((0, 5, 9), 4, p, q), [4, 6, 14][p] if q == 0 else 0)
        self.assertEqual(moment((1, 0, 1), 1, 0, 0), 1)
        self.assertEqual(moment((1, 0, 1), 3, 2, 0), 5)
        self.assertEqual(moment((0, -3, 1), 1, 0, 2), 9)
        self.assertEqual(moment((0, -3, 1), 1, 1, 2), 0)

    def test_over_no_place(self):
        for stair in SMALL_STAIRS[::50] + GREAT_STAIRS:
            for p, q in PAIRS:
                self.assertEqual(moment(stair, 0, p, q), 0)

    def test_great_stairs_added_one_by_one(self):
        for stair in GREAT_STAIRS:
            self.check_all(stair, (0, 1, 2, 40))

    def test_one_place_more_adds_the_product_there(self):
        for stair in GREAT_STAIRS:
            for n in (1, 10 ** 15 + 3, 7 * 10 ** 29, MOST - 1):
                for p, q in PAIRS:
                    more = moment(stair, n + 1, p, q) - moment(stair, n, p, q)
                    self.assertEqual(more, product(stair, n, p, q), (stair, n, p, q))

    def test_great_moments_are_put_together_of_two_parts(self):
        # Behind the first n places the stair begins anew, with all places more by n.
        for stair in GREAT_STAIRS:
            a, b, m = stair
            for n in (10 ** 14 + 1, 3 * 10 ** 29 + 8):
                behind = (a, b + a * n, m)
                many = MOST - n
                for q in range(3):
                    none, one, two = [moment(behind, many, p, q) for p in range(3)]
                    moved = [none, one + n * none, two + 2 * n * one + n * n * none]
                    for p in range(3):
                        told = moment(stair, MOST, p, q)
                        self.assertEqual(moment(stair, n, p, q) + moved[p], told, (stair, n, p, q))

    def test_powers_that_other_points_tell(self):
        for stair in SMALL_STAIRS[::11] + GREAT_STAIRS:
            for n in (0, 1, 17, 10 ** 20, MOST):
                self.assertEqual(moment(stair, n, 0, 0), n)
                self.assertEqual(moment(stair, n, 0, 1), sum_of(stair, n))
                self.assertEqual(moment(stair, n, 1, 0), n * (n - 1) // 2)
                self.assertEqual(moment(stair, n, 2, 0), n * (n - 1) * (2 * n - 1) // 6)

    def test_heights_that_are_the_places(self):
        squares = MOST * (MOST - 1) * (2 * MOST - 1) // 6
        cubes = (MOST * (MOST - 1) // 2) ** 2
        self.assertEqual(moment((1, 0, 1), MOST, 1, 1), squares)
        self.assertEqual(moment((1, 0, 1), MOST, 0, 2), squares)
        self.assertEqual(moment((-1, 0, 1), MOST, 2, 1), -cubes)
        self.assertEqual(moment((-BIG, 0, BIG), MOST, 1, 2), cubes)

    def test_the_same_asked_again(self):
        first = [moment((34, 7, 55), 10 ** 20, p, q) for p, q in PAIRS]
        self.assertEqual([moment((34, 7, 55), 10 ** 20, p, q) for p, q in PAIRS], first)

    def test_what_is_no_power_is_refused(self):
        for power in NOT_POWERS:
            for other in (0, 1, 2):
                for n in (0, 1, MOST):
                    self.assertRaises(NoPower, moment, (3, 1, 7), n, power, other)
                    self.assertRaises(NoPower, moment, (3, 1, 7), n, other, power)
            self.assertRaises(NoPower, moment, (3, 1, 7), 5, power, power)

    def test_what_is_no_count_is_refused_ahead_of_no_power(self):
        for n in NOT_COUNTS:
            for p, q in [(0, 0), (2, 1), (-1, 0), (0, 3), (3, -1)]:
                self.assertRaises(NoCount, moment, (3, 1, 7), n, p, q)

    def test_what_is_no_stair_is_refused_ahead_of_all_else(self):
        for thing in NOT_STAIRS:
            for n in [0, 3, MOST] + NOT_COUNTS:
                for p, q in [(0, 0), (2, 1), (-1, 0), (0, 3), (3, -1)]:
                    self.assertRaises(NoStair, moment, thing, n, p, q)


class RestSums(unittest.TestCase):

    def check(self, stair, counts):
        total = squares = 0
        for n in range(max(counts) + 1):
            if n in counts:
                told = rest_sums(stair, n)
                self.assertIs(type(told), tuple)
                self.assertEqual([type(part) for part in told], [int, int])
                self.assertEqual(told, (total, squares), (stair, n))
            left = plain_rest(stair, n)
            total += left
            squares += left * left

    def test_told_sums(self):
        # The rests of this stair at the places 0 to 5 are 1, 4, 0, 3, 6, 2.
        self.assertEqual(rest_sums((3, 1, 7), 6), (16, 66))
        self.assertEqual(rest_sums((3, 1, 7), 2), (5, 17))
        self.assertEqual(rest_sums((-2, -1, 3), 3), (3, 5))
        self.assertEqual(rest_sums((5, -8, 1), MOST), (0, 0))

    def test_rests_added_one_by_one(self):
        for stair in SMALL_STAIRS:
            self.check(stair, (0, 1, 2, 13))
        for stair in WIDER_STAIRS:
            self.check(stair, (0, 1, 89, 300))
        for stair in GREAT_STAIRS:
            self.check(stair, (0, 1, 2, 40))

    def test_over_a_period_all_numbers_below_m(self):
        for m in (1, 2, 7, 30, 10 ** 9 + 7, 10 ** 29 + 1, MOST):
            for a in (1, -1, BIG, -BIG, 10 ** 28 + 3):
                for b in (0, -4, BIG):
                    if gcd(a, m) == 1:
                        all_of = (m * (m - 1) // 2, (m - 1) * m * (2 * m - 1) // 6)
                        self.assertEqual(rest_sums((a, b, m), m), all_of, (a, b, m))

    def test_the_greatest_counts(self):
        for stair in GREAT_STAIRS:
            for n in (10 ** 15 + 3, MOST - 30):
                total, squares = rest_sums(stair, n)
                for k in range(n, n + 30):
                    left = plain_rest(stair, k)
                    total, squares = total + left, squares + left * left
                self.assertEqual(rest_sums(stair, n + 30), (total, squares), (stair, n))

    def test_the_same_asked_again(self):
        self.assertEqual(rest_sums((34, 7, 55), 10 ** 20), rest_sums((34, 7, 55), 10 ** 20))

    def test_what_is_no_count_is_refused(self):
        for n in NOT_COUNTS:
            self.assertRaises(NoCount, rest_sums, (3, 1, 7), n)

    def test_what_is_no_stair_is_refused_ahead_of_all_else(self):
        for thing in NOT_STAIRS:
            for n in [0, 3, MOST] + NOT_COUNTS:
                self.assertRaises(NoStair, rest_sums, thing, n)


if __name__ == "__main__":
    unittest.main()

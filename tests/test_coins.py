import unittest
from math import gcd

from stairsum.coins import last_unpaid, many_unpaid, ways, ways_to
from stairsum.errors import NoCoins
from tests.samples import BIG, FIBONACCI, OTHER_BIG

SMALL_COINS = [(p, q) for p in range(1, 13) for q in range(1, 13)]
WIDER_COINS = [(17, 30), (30, 17), (21, 34), (24, 36), (1, 50), (49, 7), (35, 35), (8, 13)]
GREAT_COINS = [
    (BIG, OTHER_BIG), (OTHER_BIG, BIG), (FIBONACCI[-1], FIBONACCI[-2]), (3, BIG), (6 * BIG, 10 * BIG), (1, BIG),
    (BIG, 1), (BIG, BIG), (BIG, BIG + 1), (2, OTHER_BIG),
]
NOT_COINS = [
    (0, 1), (1, 0), (0, 0), (-1, 1), (1, -1), (-3, -5), (-BIG, 7), (7, -BIG), (0, BIG),
    (True, 2), (2, True), (False, 2), (None, 2), (2, None), ("2", 3), (2, "3"), ([2], 3), (2, (3,)),
]


def plain_ways(p, q, c):
    return sum(1 for x in range(c // p + 1) for y in range(c // q + 1) if p * x + q * y == c)


class Ways(unittest.TestCase):

    def check(self, p, q, most):
        total = 0
        for c in range(-5, most):
            many = plain_ways(p, q, c) if c >= 0 else 0
            total += many
            self.assertEqual(ways(p, q, c), many, (p, q, c))
            self.assertEqual(ways_to(p, q, c), total, (p, q, c))

    def test_told_numbers(self):
        self.assertEqual([ways(3, 5, c) for c in range(17)], [1, 0, 0, 1, 0, 1, 1, 0, 1, 1, 1, 1, 1, 1, 1, 2, 1])
        self.assertEqual(ways_to(3, 5, 16), 14)
        self.assertEqual(ways(1, 1, 9), 10)
        self.assertEqual(ways_to(1, 1, 9), 55)

    def test_pairs_counted_one_by_one(self):
        for p, q in SMALL_COINS:
            self.check(p, q, 45)

    def test_wider_coins_counted_one_by_one(self):
        for p, q in WIDER_COINS:
            self.check(p, q, 190)

    def test_below_0_there_is_no_way(self):
        for p, q in SMALL_COINS + GREAT_COINS:
            for c in (-1, -2, -p, -q, -p * q, -BIG):
                self.assertEqual((ways(p, q, c), ways_to(p, q, c)), (0, 0), (p, q, c))

    def test_great_coins_and_numbers(self):
        for p, q in GREAT_COINS:
            divisor = gcd(p, q)
            both = p * q // divisor
            for x, y in [(0, 0), (1, 0), (0, 1), (5, 7), (10 ** 40, 3), (BIG, OTHER_BIG)]:
                c = p * x + q * y
                # From one way to the next, x goes by q less its common divisor, and y by p the other way.
                many = x // (q // divisor) + y // (p // divisor) + 1
                self.assertEqual(ways(p, q, c), many, (p, q, x, y))
                self.assertEqual(ways(p, q, c + both), many + 1)
                if divisor > 1:
                    self.assertEqual(ways(p, q, c + 1), 0)

    def test_all_numbers_up_to_a_great_one(self):
        for p, q in GREAT_COINS:
            for c in (0, 1, BIG - 1, OTHER_BIG, p * q, p + q, p * q * 3 + 5):
                self.assertEqual(ways_to(p, q, c) - ways_to(p, q, c - 1), ways(p, q, c), (p, q, c))
            self.assertEqual(ways_to(p, q, 0), 1)
        self.assertEqual(ways_to(1, 1, BIG), (BIG + 1) * (BIG + 2) // 2)
        self.assertEqual(ways_to(BIG, BIG, BIG * 10 ** 50), (10 ** 50 + 1) * (10 ** 50 + 2) // 2)

    def test_both_ways_about(self):
        for p, q in GREAT_COINS:
            for c in (BIG, BIG * OTHER_BIG, 7 * BIG * BIG + 3):
                self.assertEqual(ways(p, q, c), ways(q, p, c))
                self.assertEqual(ways_to(p, q, c), ways_to(q, p, c))


class Unpaid(unittest.TestCase):

    def test_told_numbers(self):
        self.assertEqual((last_unpaid(3, 5), many_unpaid(3, 5)), (7, 4))
        self.assertEqual((last_unpaid(2, 3), many_unpaid(2, 3)), (1, 1))
        self.assertEqual((last_unpaid(4, 6), many_unpaid(4, 6)), (None, None))

    def test_numbers_tried_one_by_one(self):
        for p, q in SMALL_COINS + WIDER_COINS:
            paid = {p * x + q * y for x in range(q + 2) for y in range(p + 2)}
            # From p q on all multiples of the divisor are paid, so what is not paid behind it has no end.
            unpaid = [c for c in range(p * q + p + q) if c not in paid]
            if gcd(p, q) > 1:
                self.assertEqual((last_unpaid(p, q), many_unpaid(p, q)), (None, None), (p, q))
            else:
                self.assertEqual(last_unpaid(p, q), max(unpaid) if unpaid else None, (p, q))
                self.assertEqual(many_unpaid(p, q), len(unpaid), (p, q))

    def test_coins_of_1(self):
        for p, q in [(1, 1), (1, 2), (2, 1), (1, BIG), (BIG, 1)]:
            self.assertEqual((last_unpaid(p, q), many_unpaid(p, q)), (None, 0))

    def test_both_coins_alike(self):
        for p in (2, 3, 12, BIG):
            self.assertEqual((last_unpaid(p, p), many_unpaid(p, p)), (None, None))

    def test_great_coins(self):
        for p, q in GREAT_COINS:
            last = last_unpaid(p, q)
            if last is not None:
                self.assertEqual(ways(p, q, last), 0)
                for on in (1, 2, 3, p, q, BIG):
                    self.assertTrue(ways(p, q, last + on) > 0)
                # Of each number and what it wants to the last one just one is paid.
                self.assertEqual(2 * many_unpaid(p, q), last + 1)
                for c in (0, 1, p, q, last // 2, last // 3, last):
                    self.assertEqual((ways(p, q, c) > 0) + (ways(p, q, last - c) > 0), 1)
        self.assertEqual((last_unpaid(6 * BIG, 10 * BIG), many_unpaid(6 * BIG, 10 * BIG)), (None, None))


class NotCoins(unittest.TestCase):

    def test_what_are_no_coins_is_refused(self):
        for p, q in NOT_COINS:
            for c in (0, 1, -1, BIG):
                self.assertRaises(NoCoins, ways, p, q, c)
                self.assertRaises(NoCoins, ways_to, p, q, c)
            self.assertRaises(NoCoins, last_unpaid, p, q)
            self.assertRaises(NoCoins, many_unpaid, p, q)

    def test_the_same_asked_again(self):
        for p, q in GREAT_COINS:
            told = [(ways(p, q, BIG), ways_to(p, q, BIG), last_unpaid(p, q), many_unpaid(p, q)) for each in range(2)]
            self.assertEqual(told[0], told[1])


if __name__ == "__main__":
    unittest.main()

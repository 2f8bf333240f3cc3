import unittest
from math import gcd

from stairsum.errors import NoPartner, NoRise, NoStair
from stairsum.partners import partner, turned
from stairsum.stairs import alike, least
from tests.samples import BIG, FIBONACCI, NOT_STAIRS, OTHER_BIG, SMALL_STAIRS, plain_height

RISING = [stair for stair in SMALL_STAIRS if stair[0] > 0]
LEAPING = [stair for stair in SMALL_STAIRS if stair[0] > stair[2]]
GREAT_RISING = [
    (BIG, OTHER_BIG, 1), (BIG, -OTHER_BIG, OTHER_BIG), (3, -OTHER_BIG, BIG), (1, BIG - 1, BIG), (BIG, 0, BIG),
    (6 * BIG, OTHER_BIG, 10 * BIG), (FIBONACCI[-2], OTHER_BIG, FIBONACCI[-1]),
]
GREAT_LEAPING = [
    (BIG, OTHER_BIG, 1), (OTHER_BIG, BIG, BIG), (OTHER_BIG, -5, BIG - 2), (BIG + 1, -OTHER_BIG, BIG),
    (FIBONACCI[-1], -5, FIBONACCI[-2]), (10 * BIG, OTHER_BIG, 6 * BIG), (2 * BIG, 7, BIG),
]


class ToldStairs(unittest.TestCase):

    def check_least(self, told):
        self.assertIs(type(told), tuple)
        self.assertEqual([type(part) for part in told], [int, int, int])
        self.assertTrue(told[2] >= 1)
        self.assertEqual(gcd(told[0], told[2]), 1, told)
        self.assertEqual(least(told), told)


class Turned(ToldStairs):

    def test_told_stairs(self):
        self.assertEqual(turned((1, 0, 1)), (1, 0, 1))
        self.assertEqual(turned((3, 1, 7)), (7, 1, 3))
        self.assertEqual(turned((2, 0, 1)), (1, 1, 2))
        self.assertEqual(turned((4, 0, 2)), (1, 1, 2))
        self.assertEqual(turned((1, 0, 2)), (2, 0, 1))
        self.assertEqual(turned((6, 5, 4)), (2, 0, 3))

    def test_going_through_places_of_either_sign(self):
        for stair in RISING:
            told = turned(stair)
            self.check_least(told)
            heights = [(k, plain_height(stair, k)) for k in range(-70, 71)]
            for h in range(-9, 10):
                first = min(k for k, at in heights if at >= h)
                self.assertTrue(-70 < first, stair)
                self.assertEqual(plain_height(told, h), first, (stair, h))

    def test_great_numbers(self):
        for stair in GREAT_RISING:
            told = turned(stair)
            self.check_least(told)
            for h in (0, 1, -1, 57, BIG, -OTHER_BIG, BIG * OTHER_BIG):
                first = plain_height(told, h)
                self.assertTrue(plain_height(stair, first) >= h, (stair, h))
                self.assertTrue(plain_height(stair, first - 1) < h, (stair, h))

    def test_what_does_not_rise_is_refused(self):
        for stair in [(0, 0, 1), (0, 5, 7), (-1, 0, 1), (-3, 5, 7), (-BIG, OTHER_BIG, 7), (0, BIG, OTHER_BIG)]:
            self.assertRaises(NoRise, turned, stair)
        for stair in SMALL_STAIRS:
            if stair[0] <= 0:
                self.assertRaises(NoRise, turned, stair)

    def test_what_is_no_stair_is_refused(self):
        for thing in NOT_STAIRS + [(0, 0, 0), (-1, 0, 0), (0, 0, -3)]:
            self.assertRaises(NoStair, turned, thing)


class Partner(ToldStairs):

    def test_told_stairs(self):
        self.assertEqual(partner((2, 0, 1)), (2, 1, 1))
        self.assertEqual(partner((3, 0, 1)), (3, 2, 2))
        self.assertEqual(partner((3, 2, 2)), (3, 0, 1))
        self.assertEqual(partner((4, 0, 2)), (2, 1, 1))
        self.assertEqual(partner((17, 9, 5)), (17, 7, 12))

    def test_each_number_is_a_height_of_one_of_the_two(self):
        for stair in LEAPING:
            other = partner(stair)
            ones = [plain_height(stair, k) for k in range(-70, 71)]
            others = [plain_height(other, j) for j in range(-400, 401)]
            for h in range(-30, 31):
                self.assertEqual(ones.count(h) + others.count(h), 1, (stair, h))

    def test_each_place_has_the_number_left_out_that_the_turned_stair_tells(self):
        for stair in LEAPING:
            told = partner(stair)
            self.check_least(told)
            taken = {plain_height(stair, k) for k in range(-160, 161)}
            heights = [(k, plain_height(stair, k)) for k in range(-160, 161)]
            left_out = {}
            for h in range(-110, 111):
                if h not in taken:
                    first = min(k for k, at in heights if at >= h)
                    left_out.setdefault(h - first, []).append(h)
            for j in range(-8, 9):
                self.assertEqual(left_out.get(j), [plain_height(told, j)], (stair, j))

    def test_the_partners_partner_is_alike(self):
        for stair in LEAPING + GREAT_LEAPING:
            self.assertTrue(alike(partner(partner(stair)), stair), stair)

    def test_great_numbers(self):
        for stair in GREAT_LEAPING:
            told = partner(stair)
            self.check_least(told)
            turn = turned(stair)
            for j in (0, 1, -1, 57, BIG, -OTHER_BIG):
                h = plain_height(told, j)
                first = plain_height(turn, h)
                self.assertEqual(h - first, j, (stair, j))
                # The heights next to h jump over it.
                self.assertTrue(plain_height(stair, first - 1) < h < plain_height(stair, first), (stair, j))
            for k in (0, 1, -1, 57, BIG, -OTHER_BIG):
                h = plain_height(stair, k)
                first = plain_height(turned(told), h)
                self.assertTrue(plain_height(told, first - 1) < h < plain_height(told, first), (stair, k))

    def test_what_has_no_partner_is_refused(self):
        for stair in [(1, 0, 1), (7, 3, 7), (3, 1, 7), (0, 0, 1), (-9, 1, 7), (BIG, 5, BIG), (BIG - 1, 0, BIG)]:
            self.assertRaises(NoPartner, partner, stair)
        for stair in SMALL_STAIRS:
            if stair[0] <= stair[2]:
                self.assertRaises(NoPartner, partner, stair)

    def test_what_is_no_stair_is_refused(self):
        for thing in NOT_STAIRS + [(0, 0, 0), (5, 0, 0), (5, 0, -3)]:
            self.assertRaises(NoStair, partner, thing)

    def test_the_same_asked_again(self):
        for stair in LEAPING[::40] + GREAT_LEAPING:
            self.assertEqual((partner(stair), turned(stair)), (partner(stair), turned(stair)))


if __name__ == "__main__":
    unittest.main()

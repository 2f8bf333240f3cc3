import unittest
from random import Random

from stairsum.errors import NoCount, NoEntry, NoStair, NothingLeft, TooMany
from stairsum.ledgers import Ledger
from stairsum.sums import sum_of
from tests.samples import BIG, GREAT_STAIRS, MOST, NOT_COUNTS, NOT_STAIRS, OTHER_BIG, plain_height

STAIRS = [(3, 1, 7), (-4, 9, 11), (0, 5, 9), (17, -9, 5), (-1, 0, 1), (34, 7, 55)]
PLACES = (-40, -12, -1, 0, 1, 5, 12, 30)


def plain_worth(entries):
    return sum(times * sum(plain_height(stair, k) for k in range(begin, begin + count))
               for stair, begin, count, times in entries)


def plain_worth_at(entries, k):
    return sum(times * plain_height(stair, k) for stair, begin, count, times in entries if begin <= k < begin + count)


def told_by(ledger):
    return (ledger.entries(), ledger.worth(), [ledger.worth_at(k) for k in PLACES])


class Ledgers(unittest.TestCase):

    def check(self, ledger, entries):
        self.assertEqual(ledger.entries(), entries)
        self.assertEqual(ledger.worth(), plain_worth(entries))
        for k in PLACES:
            self.assertEqual(ledger.worth_at(k), plain_worth_at(entries, k), k)

    def test_told_numbers(self):
        ledger = Ledger()
        self.assertEqual((ledger.entries(), ledger.worth(), ledger.worth_at(0)), ([], 0, 0))
        self.assertEqual(ledger.put((3, 1, 7), 0, 6, 2), 10)
        self.assertEqual(ledger.put((2, 0, 1), -2, 3, -1), 16)
        self.assertEqual(ledger.entries(), [((3, 1, 7), 0, 6, 2), ((2, 0, 1), -2, 3, -1)])
        self.assertEqual([ledger.worth_at(k) for k in (-3, -2, -1, 0, 1, 2, 5, 6)], [0, 4, 2, 0, 0, 2, 4, 0])
        self.assertEqual(ledger.change(0, 3), 21)
        self.assertEqual(ledger.drop(0), 6)
        self.assertEqual(ledger.entries(), [((2, 0, 1), -2, 3, -1)])
        self.assertIsNone(ledger.back())
        self.assertEqual(ledger.worth(), 21)
        for each in range(3):
            self.assertIsNone(ledger.back())
        self.assertEqual((ledger.entries(), ledger.worth()), ([], 0))
        self.assertRaises(NothingLeft, ledger.back)

    def test_two_ledgers_against_plain_lists(self):
        source = Random(23)
        pairs = [(Ledger(), [[]]) for each in range(2)]
        for step in range(500):
            ledger, pages = source.choice(pairs)
            entries = list(pages[-1])
            deed = source.choice("pppdccb")
            if deed == "b" and len(pages) > 1:
                pages.pop()
                self.assertIsNone(ledger.back())
            elif deed == "b":
                self.assertRaises(NothingLeft, ledger.back)
            elif deed == "p" or not entries:
                entry = (source.choice(STAIRS), source.randint(-15, 15), source.choice((0, 1, 2, 9, 20)),
                         source.choice((-3, -1, 0, 1, 2, 50)))
                pages.append(entries + [entry])
                self.assertEqual(ledger.put(*entry), plain_worth(pages[-1]))
            else:
                number = source.randrange(len(entries))
                if deed == "d":
                    pages.append(entries[:number] + entries[number + 1:])
                    self.assertEqual(ledger.drop(number), plain_worth(pages[-1]))
                else:
                    times = source.choice((-2, 0, 7, entries[number][3]))
                    entries[number] = entries[number][:3] + (times,)
                    pages.append(entries)
                    self.assertEqual(ledger.change(number, times), plain_worth(entries))
            if step & 7 == 0:
                for ledger, pages in pairs:
                    self.check(ledger, pages[-1])
        for ledger, pages in pairs:
            self.assertTrue(len(pages) > 100)
            while len(pages) > 1:
                pages.pop()
                ledger.back()
                self.assertEqual(ledger.entries(), pages[-1])
                self.assertEqual(ledger.worth(), plain_worth(pages[-1]))
            self.assertRaises(NothingLeft, ledger.back)

    def test_times_0_and_below_0(self):
        ledger = Ledger()
        self.assertEqual(ledger.put((3, 1, 7), 0, 6, 0), 0)
        self.assertEqual(ledger.put((3, 1, 7), 0, 6, -4), -20)
        self.assertEqual(len(ledger.entries()), 2)
        self.assertEqual(ledger.worth_at(5), -8)
        self.assertEqual(ledger.change(0, 4), 0)
        self.assertEqual(ledger.change(0, -1), -25)

    def test_to_change_to_the_same_is_a_deed(self):
        ledger = Ledger()
        ledger.put((3, 1, 7), 0, 6, 2)
        ledger.change(0, 5)
        self.assertEqual(ledger.change(0, 5), 25)
        ledger.back()
        self.assertEqual(ledger.worth(), 25)
        ledger.back()
        self.assertEqual(ledger.worth(), 10)
        ledger.back()
        self.assertEqual(ledger.entries(), [])
        self.assertRaises(NothingLeft, ledger.back)

    def test_entries_of_count_0(self):
        ledger = Ledger()
        self.assertEqual(ledger.put((3, 100, 7), -5, 0, 9), 0)
        self.assertEqual(ledger.entries(), [((3, 100, 7), -5, 0, 9)])
        self.assertEqual([ledger.worth_at(k) for k in (-6, -5, -4)], [0, 0, 0])

    def test_those_behind_a_dropped_one_are_numbered_one_less(self):
        ledger = Ledger()
        for number in range(5):
            ledger.put((0, 1, 1), 0, 1, 10 ** number)
        self.assertEqual(ledger.drop(1), 11101)
        self.assertEqual(ledger.change(1, 7), 11008)
        self.assertEqual(ledger.drop(3), 1008)
        self.assertRaises(NoEntry, ledger.drop, 3)
        self.assertEqual(ledger.drop(0), 1007)
        self.assertEqual([entry[3] for entry in ledger.entries()], [7, 1000])
        for worth in (1008, 11008, 11101, 11111, 1111, 111, 11, 1, 0):
            ledger.back()
            self.assertEqual(ledger.worth(), worth)

    def test_two_hundred_entries_and_no_more(self):
        ledger = Ledger()
        for number in range(200):
            ledger.put((3, number, 7), -number, 5, number - 100)
        kept = told_by(ledger)
        self.assertEqual(len(kept[0]), 200)
        for each in range(2):
            self.assertRaises(TooMany, ledger.put, (3, 1, 7), 0, 6, 1)
        for n in NOT_COUNTS:
            self.assertRaises(NoCount, ledger.put, (3, 1, 7), 0, n, 1)
        for thing in NOT_STAIRS:
            self.assertRaises(NoStair, ledger.put, thing, 0, 6, 1)
            self.assertRaises(NoStair, ledger.put, thing, 0, -1, 1)
        self.assertEqual(told_by(ledger), kept)
        ledger.change(199, 5)
        self.assertRaises(TooMany, ledger.put, (3, 1, 7), 0, 6, 1)
        ledger.drop(7)
        ledger.put((3, 1, 7), 0, 6, 1)
        self.assertRaises(TooMany, ledger.put, (3, 1, 7), 0, 6, 1)
        for each in range(3):
            ledger.back()
        self.assertEqual(told_by(ledger), kept)

    def test_refusals_change_nothing(self):
        ledger = Ledger()
        for deeds in range(3):
            kept = told_by(ledger)
            for thing in NOT_STAIRS:
                for n in (0, 3, -1, MOST + 1):
                    self.assertRaises(NoStair, ledger.put, thing, 0, n, 1)
            for n in NOT_COUNTS:
                self.assertRaises(NoCount, ledger.put, (3, 1, 7), 0, n, 1)
            for number in (-1, -2, -deeds, deeds, deeds + 1, 200, BIG, -BIG):
                if not 0 <= number < deeds:
                    self.assertRaises(NoEntry, ledger.drop, number)
                    self.assertRaises(NoEntry, ledger.change, number, 5)
            self.assertEqual(told_by(ledger), kept)
            for each in range(deeds):
                ledger.back()
            self.assertRaises(NothingLeft, ledger.back)
            self.assertEqual(told_by(ledger), ([], 0, [0] * len(PLACES)))
            for each in range(deeds + 1):
                ledger.put((3, 1, 7), each, 6, 2)

    def test_hundreds_of_deeds_taken_back_one_by_one(self):
        ledger = Ledger()
        told = []
        for step in range(150):
            told.append(told_by(ledger))
            ledger.put(GREAT_STAIRS[step % len(GREAT_STAIRS)], step - 70, MOST - step, step - 75)
        for step in range(400):
            told.append(told_by(ledger))
            ledger.change(step % 150, step * BIG)
        for step in range(150):
            told.append(told_by(ledger))
            ledger.drop((step * 7) % (150 - step))
        self.assertEqual(ledger.entries(), [])
        for kept in told[::-1]:
            ledger.back()
            self.assertEqual(told_by(ledger), kept)
        self.assertRaises(NothingLeft, ledger.back)

    def test_great_numbers(self):
        ledger = Ledger()
        total = 0
        for stair in GREAT_STAIRS:
            for begin, times in [(0, 1), (BIG, OTHER_BIG), (-OTHER_BIG, -BIG)]:
                a, b, m = stair
                total += times * sum_of((a, b + a * begin, m), MOST)
                self.assertEqual(ledger.put(stair, begin, MOST, times), total)
        self.assertEqual(ledger.worth(), total)
        for k in (-OTHER_BIG, -OTHER_BIG - 1, -OTHER_BIG + MOST, -OTHER_BIG + MOST - 1, BIG, BIG + MOST, 0,
                  MOST - 1, MOST):
            self.assertEqual(ledger.worth_at(k), plain_worth_at(ledger.entries(), k))

    def test_told_entries_are_the_askers_own(self):
        ledger = Ledger()
        entries = ledger.entries()
        entries.append("more")
        self.assertEqual(ledger.entries(), [])
        ledger.put((3, 1, 7), 0, 6, 2)
        first, second = ledger.entries(), ledger.entries()
        self.assertIs(type(first), list)
        self.assertEqual([type(entry) for entry in first], [tuple])
        first.append("more")
        first[0] = "changed"
        self.assertEqual(second, [((3, 1, 7), 0, 6, 2)])
        self.assertEqual(ledger.entries(), second)
        ledger.change(0, 9)
        ledger.put((3, 1, 7), 0, 6, 2)
        self.assertEqual(second, [((3, 1, 7), 0, 6, 2)])

    def test_the_methods_stand_in_the_class_itself(self):
        for name in ("put", "drop", "change", "back", "entries", "worth", "worth_at"):
            self.assertIn(name, vars(Ledger))


if __name__ == "__main__":
    unittest.main()

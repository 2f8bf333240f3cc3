"""What the document promises over the whole program: points 1 to 4 and which refusal goes first."""

import unittest
from copy import deepcopy
from random import Random

from stairsum.coins import last_unpaid, many_unpaid, ways, ways_to
from stairsum.counts import often
from stairsum.desk import Desk
from stairsum.errors import NoBounds, NoCount, NoPower, NoStair, NoSteps, StairError, TooMany
from stairsum.hits import first_hit, hit, next_hit
from stairsum.ledgers import Ledger
from stairsum.lows import highest, lowest, lows
from stairsum.moments import moment, rest_sums
from stairsum.papers import is_paper, paper_of, taken
from stairsum.partners import partner, turned
from stairsum.points import points_at, points_in
from stairsum.stairs import alike, height, is_stair, least, rest, split
from stairsum.steps import stair_of, step_text
from stairsum.sums import heights, sum_of
from stairsum.texts import paper_text, read_paper, read_stair, stair_text
from stairsum.walkers import Walker
from tests.samples import BIG, GREAT_STAIRS, MOST, NOT_COUNTS, NOT_POWERS, NOT_STAIRS, OTHER_BIG

STAIRS = [(3, 1, 7), (17, 9, 5), (-4, 9, 11), (0, 5, 9), (5, 5, 5), (BIG, 3, OTHER_BIG), (OTHER_BIG, -7, BIG)]
RING = [((1, 3), (-1, 2)), ((5, 2), (0, 1)), ((1, 3), (7, 2))]
PAPER = [(6, 3, 1, 7, 0), (2, 7, 5, 3, 2), (1, 3, 1, 1, 3)]

# Each function that is handed a stair, with what stands behind it: k a place, n a count, b bounds, p a power.
WITH_STAIR = [
    (height, "k"), (rest, "k"), (least, ""), (split, ""), (heights, "kn"), (sum_of, "n"), (paper_of, "n"),
    (moment, "npp"), (rest_sums, "n"), (often, "nb"), (first_hit, "b"), (hit, "bn"), (next_hit, "bk"), (lows, "n"),
    (lowest, "n"), (highest, "n"), (step_text, "n"), (turned, ""), (partner, ""), (stair_text, ""), (Walker, ""),
]
GOOD = {"k": [4], "n": [5], "b": [1, 2], "p": [2]}
WRONG = {"k": [-BIG], "n": [-1], "b": [2, 1], "p": [3]}


def arguments(form, values):
    return [value for kind in form for value in values[kind]]


def answer_of(ask):
    """What is answered, as a copy that nothing changes, or the refusal."""
    try:
        told = ask()
    except StairError as error:
        return type(error).__name__
    kept = deepcopy(told)
    if isinstance(told, list):
        # The list is the asker's own: whatever is done to it changes nothing else.
        told.append("more")
        told[0] = "changed"
        told.reverse()
    return kept


def stair_questions(stair):
    """Questions about one stair, good ones and such that are refused."""
    m = stair[2]
    asked = []
    for ask, form in WITH_STAIR:
        if ask != Walker:
            for values in (GOOD, WRONG, {**WRONG, "n": [5]}, {"k": [-9], "n": [MOST], "b": [0, m], "p": [1]},
                           {"k": [0], "n": [0], "b": [m // 2, m], "p": [0]},
                           {"k": [BIG], "n": [20], "b": [0, 0], "p": [1]}):
                asked.append((ask, [stair] + arguments(form, values)))
    asked += [(alike, [stair, other]) for other in STAIRS] + [(is_stair, [stair]), (is_paper, [stair, 6, list(PAPER)])]
    return asked


def other_questions():
    asked = [(points_in, [list(RING)]), (points_in, [RING[::-1]]), (taken, [list(PAPER)]), (paper_text, [list(PAPER)])]
    asked += [(points_at, [list(RING), x]) for x in range(4)]
    coins = [(3, 5), (4, 6), (0, 1), (BIG, OTHER_BIG)]
    asked += [(ask, [p, q]) for ask in (last_unpaid, many_unpaid) for p, q in coins]
    asked += [(ask, [3, 5, c]) for ask in (ways, ways_to) for c in (-1, 0, 15, BIG)]
    asked += [(stair_of, [text]) for text in ("", "lhlhh", "llhh", "x", None, "l" * 201)]
    asked += [(read_stair, [text]) for text in ("3k-2/7", "3k-0/7", "", None)]
    asked += [(read_paper, [text]) for text in (paper_text(PAPER), "1 2 3 4", None)]
    return asked


def all_questions():
    return [question for stair in STAIRS for question in stair_questions(stair)] + other_questions()


class Answers(unittest.TestCase):

    def test_the_same_is_answered_in_any_order(self):
        questions = all_questions()
        first = [answer_of(lambda: ask(*given)) for ask, given in questions]
        self.assertTrue(len([told for told in first if isinstance(told, list)]) > 20)
        self.assertTrue({"NoCount", "NoBounds", "NoPower", "NoText", "NoRing", "NoCoins", "NoPartner", "NoRise",
                         "NoSteps", "TooMany"} <= {told for told in first if isinstance(told, str)})
        source = Random(2)
        for each in range(3):
            order = list(range(len(questions)))
            source.shuffle(order)
            for at in order:
                ask, given = questions[at]
                self.assertEqual(answer_of(lambda: ask(*given)), first[at], (ask, given))

    def test_what_is_handed_in_stays_as_it_was(self):
        for ask, given in all_questions():
            kept = deepcopy(given)
            answer_of(lambda: ask(*given))
            self.assertEqual(given, kept, ask)
            self.assertEqual([type(part) for part in given], [type(part) for part in kept])

    def test_no_two_told_lists_hang_together(self):
        for ask, given in all_questions():
            if isinstance(answer_of(lambda: ask(*given)), list):
                one, other = ask(*given), ask(*given)
                self.assertIsNot(one, other)
                kept = list(other)
                one.append("more")
                one.insert(0, "ahead")
                self.assertEqual(other, kept)
                for part in other:
                    self.assertIn(type(part), (int, tuple), ask)

    def test_a_told_list_is_none_that_was_handed_in(self):
        paper = read_paper(paper_text(PAPER))
        self.assertTrue(is_paper((3, 1, 7), 6, paper))
        paper.append((0, 0, 0, 1, 0))
        self.assertFalse(is_paper((3, 1, 7), 6, paper))
        self.assertEqual(paper_of((3, 1, 7), 6), PAPER)

    def test_questions_change_no_walker_ledger_or_desk(self):
        walker, ledger, desk = Walker((3, 1, 7)), Ledger(), Desk()
        walker.go(5)
        ledger.put((3, 1, 7), -2, 9, 4)
        for row in ("stair a 3k+1/7", "walk a", "go 5"):
            desk.say(row)
        asked = [
            walker.place, walker.height, walker.rest, walker.total, lambda: walker.often(0, 3),
            lambda: walker.often(3, 0),
            lambda: walker.go(-1), lambda: walker.find(3, 3), lambda: walker.find(3, 0), ledger.entries, ledger.worth,
            lambda: ledger.worth_at(2), lambda: ledger.worth_at(-9), lambda: ledger.drop(1),
            lambda: ledger.change(-1, 3),
            lambda: ledger.put((1, 2), 0, 1, 1), lambda: ledger.put((1, 2, 3), 0, -1, 1)]
        rows = ["names", "show a", "least a", "turned a", "partner a", "at a 4", "sum a 9", "often a 9 1 3",
                "hit a 1 3 4",
                "lowest a 5", "steps a 20", "where", "find 3 3", "go -1", "drop b", "stair a x", "walk b", "no row", ""]
        asked += [lambda row=row: desk.say(row) for row in rows]
        first = [answer_of(ask) for ask in asked]
        source = Random(3)
        for each in range(5):
            order = list(range(len(asked)))
            source.shuffle(order)
            for at in order:
                self.assertEqual(answer_of(asked[at]), first[at], at)

    def test_what_was_told_may_be_handed_in_again(self):
        for stair in GREAT_STAIRS:
            total = sum_of(stair, MOST)
            longer = (total, moment(stair, MOST, 2, 2), abs(total) + 1)
            self.assertEqual(height(longer, total), (longer[0] * total + longer[1]) // longer[2])
            self.assertEqual(taken(paper_of(longer, MOST)), sum_of(longer, MOST))
            self.assertTrue(is_stair(least(longer)))
            walker = Walker(longer)
            self.assertEqual(walker.go(MOST), sum_of(longer, MOST))
            text = stair_text(longer)
            self.assertEqual([text.count(sign) for sign in "k/ "], [1, 1, 0])


class Refusals(unittest.TestCase):

    def test_what_is_no_stair_is_refused_ahead_of_all_else(self):
        for ask, form in WITH_STAIR:
            for thing in NOT_STAIRS:
                for values in (GOOD, WRONG):
                    self.assertRaises(NoStair, ask, thing, *arguments(form, values))
        ledger = Ledger()
        for thing in NOT_STAIRS:
            self.assertFalse(is_stair(thing))
            self.assertRaises(NoStair, alike, thing, (3, 1, 7))
            self.assertRaises(NoStair, alike, (3, 1, 7), thing)
            for n in (3, -1, MOST + 1):
                self.assertRaises(NoStair, is_paper, thing, n, list(PAPER))
                self.assertRaises(NoStair, is_paper, thing, n, [])
                self.assertRaises(NoStair, ledger.put, thing, 0, n, 1)

    def test_what_is_no_count_is_refused_by_all_that_are_handed_one(self):
        for ask, form in WITH_STAIR:
            if "n" in form:
                for n in NOT_COUNTS:
                    self.assertRaises(NoCount, ask, (3, 1, 7), *arguments(form, {**GOOD, "n": [n]}))
        for n in NOT_COUNTS:
            self.assertRaises(NoCount, is_paper, (3, 1, 7), n, [])
            self.assertRaises(NoCount, Walker((3, 1, 7)).go, n)
            self.assertRaises(NoCount, Ledger().put, (3, 1, 7), 0, n, 1)

    def test_the_greatest_count_is_taken(self):
        for ask, form in WITH_STAIR:
            if "n" in form and ask not in (heights, step_text):
                ask((3, 1, 7), *arguments(form, {**GOOD, "n": [MOST]}))
        for ask, given in [(heights, [0]), (step_text, [])]:
            self.assertEqual(len(ask((3, 1, 7), *given, 2000)), 2000)
            for n in (2001, MOST):
                self.assertRaises(TooMany, ask, (3, 1, 7), *given, n)
            self.assertRaises(NoCount, ask, (3, 1, 7), *given, MOST + 1)
        for ask in (lows, lowest, highest):
            self.assertRaises(NoCount, ask, (3, 1, 7), 0)
            ask((3, 1, 7), 1)

    def test_which_refusal_goes_first(self):
        for power in NOT_POWERS:
            self.assertRaises(NoCount, moment, (3, 1, 7), -1, power, power)
            self.assertRaises(NoPower, moment, (3, 1, 7), 1, power, 0)
            self.assertRaises(NoPower, moment, (3, 1, 7), 1, 0, power)
        self.assertRaises(NoCount, often, (3, 1, 7), -1, 2, 1)
        self.assertRaises(NoBounds, hit, (3, 1, 7), 2, 1, -1)
        self.assertRaises(NoCount, hit, (3, 1, 7), 2, 2, -1)
        self.assertRaises(NoCount, step_text, (9, 1, 7), MOST + 1)
        self.assertRaises(TooMany, step_text, (9, 1, 7), MOST)
        self.assertRaises(NoSteps, step_text, (9, 1, 7), 2000)


class Promise(unittest.TestCase):
    """Point 3: what several functions tell goes together."""

    def test_sums_papers_walkers_and_ledgers_tell_the_same(self):
        for stair in STAIRS + GREAT_STAIRS:
            for n in (0, 1, 50, 10 ** 20 + 3, MOST):
                total = sum_of(stair, n)
                self.assertEqual(taken(paper_of(stair, n)), total)
                self.assertEqual(moment(stair, n, 0, 1), total)
                self.assertEqual(Walker(stair).go(n), total)
                self.assertEqual(Ledger().put(stair, 0, n, 1), total)

    def test_walkers_find_all_hits_in_their_order(self):
        for stair in STAIRS:
            m = stair[2]
            low, high = m // 3, m // 2 + 1
            walker = Walker(stair)
            for number in range(20):
                if walker.find(low, high) is None:
                    self.assertIsNone(hit(stair, low, high, number))
                    break
                self.assertEqual(walker.place(), hit(stair, low, high, number))
                self.assertEqual(walker.often(low, high), number)
                walker.go(1)

    def test_a_stair_of_its_text_steps_alike(self):
        for stair in STAIRS + GREAT_STAIRS:
            if 0 <= stair[0] <= stair[2]:
                text = step_text(stair, 200)
                word, told = stair_of(text)
                self.assertEqual((word, step_text(told, 200)), ("stair", text))
                self.assertTrue(told[2] <= stair[2])


if __name__ == "__main__":
    unittest.main()

import unittest

from stairsum.errors import NoCount, NoStair
from stairsum.papers import is_paper, paper_of, taken
from stairsum.sums import sum_of
from tests.samples import (
    BIG_STAIRS, MOST, NOT_COUNTS, NOT_STAIRS, SMALL_STAIRS, has_form, plain_sum, written_paper)

SOME_STAIRS = SMALL_STAIRS[::5] + [(34, 5, 55), (55, -3, 34), (-34, 200, 55), (13, 0, 89), (89, 88, 13)]


class ToldPaper(unittest.TestCase):

    def test_told_rows(self):
        self.assertEqual(paper_of((3, 1, 7), 6), [(6, 3, 1, 7, 0), (2, 7, 5, 3, 2), (1, 3, 1, 1, 3)])
        self.assertEqual(paper_of((-4, -1, 7), 6), [(6, -4, -1, 7, -1), (3, 7, 3, 3, 2), (1, 3, 0, 1, 3)])
        self.assertEqual(paper_of((9, 5, 3), 4), [(4, 9, 5, 3, 3)])
        self.assertEqual(paper_of((3, 1, 7), 0), [(0, 3, 1, 7, 0)])
        self.assertEqual(paper_of((-3, 1, 7), 1), [(1, -3, 1, 7, -1)])
        self.assertEqual(paper_of((0, -9, 5), MOST), [(MOST, 0, -9, 5, 0)])

    def check(self, stair, n):
        paper = paper_of(stair, n)
        self.assertIs(type(paper), list)
        for row in paper:
            self.assertIs(type(row), tuple)
            self.assertEqual([type(part) for part in row], [int] * 5)
            left = row[1] - row[4] * row[3]
            self.assertTrue(0 <= left < row[3], row)
        self.assertEqual(paper, written_paper(stair, n, []))
        self.assertTrue(has_form(stair, n, paper))
        self.assertIs(is_paper(stair, n, paper), True)
        self.assertEqual(taken(paper), sum_of(stair, n))
        return paper

    def test_small_ones(self):
        for stair in SOME_STAIRS:
            for n in (0, 1, 2, 5, 8, 21):
                paper = self.check(stair, n)
                self.assertEqual(taken(paper), plain_sum(stair, n), (stair, n))

    def test_numbers_of_a_hundred_figures_with_the_greatest_counts(self):
        for stair in BIG_STAIRS:
            for n in (0, 1, 10 ** 17, MOST):
                self.check(stair, n)

    def test_numbers_shrink_as_in_seeking_a_common_divisor(self):
        paper = paper_of((34, 0, 55), 10 ** 25)
        seen = [(row[1], row[3]) for row in paper]
        self.assertEqual(seen, [(34, 55), (55, 34), (34, 21), (21, 13), (13, 8), (8, 5), (5, 3), (3, 2), (2, 1)])

    def test_each_list_is_the_askers_own(self):
        first = paper_of((3, 1, 7), 6)
        second = paper_of((3, 1, 7), 6)
        first.append((0, 0, 0, 1, 0))
        first[0] = "changed"
        self.assertEqual(second, [(6, 3, 1, 7, 0), (2, 7, 5, 3, 2), (1, 3, 1, 1, 3)])
        self.assertEqual(paper_of((3, 1, 7), 6), second)

    def test_what_is_no_count_is_refused(self):
        for n in NOT_COUNTS:
            self.assertRaises(NoCount, paper_of, (3, 1, 7), n)

    def test_what_is_no_stair_is_refused_ahead_of_all_else(self):
        for thing in NOT_STAIRS:
            for n in [0, 3, MOST] + NOT_COUNTS:
                self.assertRaises(NoStair, paper_of, thing, n)


class LesserRises(unittest.TestCase):

    def check(self, stair, n, paper):
        self.assertTrue(has_form(stair, n, paper))
        self.assertIs(is_paper(stair, n, paper), True, (stair, n, paper))
        self.assertEqual(taken(paper), sum_of(stair, n), (stair, n, paper))

    def test_told_papers(self):
        self.check((3, 1, 7), 0, [(0, 3, 1, 7, -5)])
        self.check((3, 1, 7), 1, [(1, 3, 1, 7, 0)])
        self.check((9, 5, 3), 2, [(2, 9, 5, 3, 2), (2, 3, 2, 3, 1)])
        self.check((9, 5, 3), 2, [(2, 9, 5, 3, 2), (2, 3, 2, 3, 0), (2, 3, 2, 3, 1)])
        self.check((3, 1, 7), 6, [(6, 3, 1, 7, 0), (2, 7, 5, 3, 1), (3, 3, 1, 4, 0), (2, 4, 2, 3, 1), (1, 3, 1, 1, 3)])

    def test_written_with_lesser_rises(self):
        for stair in SOME_STAIRS:
            for n in (0, 1, 2, 7, 30):
                for less in ([1], [0, 1], [2, 0, 3], [0, 0, 1], [1, 1, 1, 1], [5, 4, 3, 2, 1], [100]):
                    self.check(stair, n, written_paper(stair, n, less))

    def test_rises_below_nought(self):
        paper = written_paper((3, 1, 7), 6, [4, 3, 2])
        self.assertTrue([row for row in paper if row[4] < 0])
        self.check((3, 1, 7), 6, paper)

    def test_numbers_of_a_hundred_figures(self):
        for stair in BIG_STAIRS:
            for less in ([1], [0, 1, 1], [10 ** 99], [2, 10 ** 40, 1]):
                self.check(stair, MOST, written_paper(stair, MOST, less))

    def test_a_later_row_may_have_more_than_a_count(self):
        paper = written_paper((1, 0, 2), MOST, [10 ** 40])
        self.assertTrue(max(row[0] for row in paper) > 10 ** 60)
        self.check((1, 0, 2), MOST, paper)

    def test_however_many_rows(self):
        # A rise of 0 with a above m brings the same numbers back two rows on, as often as one likes.
        pair = [(4, 10, 1, 3, 0), (13, 3, 2, 10, 0)]
        for times in (1, 2, 3000):
            self.check((10, 1, 3), 4, pair * times + paper_of((10, 1, 3), 4))
            self.assertIs(is_paper((10, 1, 3), 4, pair * times), False)


class NoPaper(unittest.TestCase):

    def test_told_lists(self):
        stair, n = (3, 1, 7), 6
        good = paper_of(stair, n)
        for paper in [
                [], good[:-1], good[:-2], good[1:], good[::-1], good + [good[-1]], good + good,
                good + [(0, 1, 0, 3, 0)], good + [(0, 1, 0, 1, 1)], [good[0], good[0]] + good[1:],
                [good[0], good[2], good[1]], [good[1], good[0], good[2]],
                [(6, 3, 1, 7, 1)], [(6, 3, 1, 7, 1)] + good[1:], good[:2] + [(1, 3, 1, 1, 4)],
                [(6, 3, 1, 0, 0)], [(6, 3, 1, -7, 0)], [(6, 3, 1, 0, 0)] + good[1:],
                good[:1] + [(2, 7, 5, 0, 2)] + good[2:], good[:1] + [(2, 7, 5, -3, 2)] + good[2:],
                good[:2] + [(1, 3, 1, 0, 3)], good + [(0, 0, 0, 0, 0)], good + [(0, 0, 0, -1, 0)],
                [(0, 0, 0, 0, 0)], [(-1, -1, -1, -1, -1)]]:
            self.assertIs(is_paper(stair, n, paper), False, paper)

    def test_a_rise_too_great_with_nothing_to_add(self):
        self.assertIs(is_paper((3, 1, 7), 0, [(0, 3, 1, 7, 1)]), False)
        self.assertIs(is_paper((-3, 1, 7), 0, [(0, -3, 1, 7, 0)]), False)
        self.assertIs(is_paper((0, 1, 7), 0, [(0, 0, 1, 7, 1)]), False)

    def test_a_rise_too_great_that_would_end_the_paper(self):
        # Here r is -1, and the whole part of (r n + s) / m is 0 all the same.
        self.assertIs(is_paper((6, 6, 7), 1, [(1, 6, 6, 7, 1)]), False)
        self.assertIs(is_paper((6, 6, 7), 1, [(1, 6, 6, 7, 0), (1, 7, 5, 6, 1), (1, 6, 0, 1, 6)]), True)

    def test_for_another_stair_or_count(self):
        good = paper_of((3, 1, 7), 6)
        for stair in [(4, 1, 7), (2, 1, 7), (3, 0, 7), (3, 2, 7), (3, 1, 6), (3, 1, 8), (10, 1, 7), (3, 8, 7),
                      (6, 2, 14), (6, 3, 14)]:
            self.assertIs(is_paper(stair, 6, good), False, stair)
        for n in (0, 1, 5, 7, MOST):
            self.assertIs(is_paper((3, 1, 7), n, good), False, n)

    def changed_lists(self, paper):
        for at, row in enumerate(paper):
            yield paper[:at] + paper[at + 1:]
            yield paper[:at] + [row] + paper[at:]
            for to in range(at):
                other = list(paper)
                other[at], other[to] = other[to], other[at]
                yield other
            for part in range(5):
                for by in (-row[3], -3, -1, 1, 2, row[3]):
                    changed = row[:part] + (row[part] + by,) + row[part + 1:]
                    if changed[3] > 0:
                        yield paper[:at] + [changed] + paper[at + 1:]

    def test_the_form_decides(self):
        judged = {True: 0, False: 0}
        for stair in SOME_STAIRS[::2]:
            for n in (0, 1, 4, 9):
                for less in ([], [1, 1]):
                    for paper in self.changed_lists(written_paper(stair, n, less)):
                        told = has_form(stair, n, paper)
                        judged[told] += 1
                        self.assertIs(is_paper(stair, n, paper), told, (stair, n, paper))
                        if told:
                            self.assertEqual(taken(paper), plain_sum(stair, n))
        self.assertTrue(judged[True] > 50 and judged[False] > 5000, judged)

    def test_rows_of_other_things(self):
        for paper in [
                None, "", "paper", (), 7, ((1, 3, 1, 7, 0),), [None], [()], [(1, 3, 1, 7)], [(1, 3, 1, 7, 0, 0)],
                [[1, 3, 1, 7, 0]], [(True, 3, 1, 7, 0)], [(1, 3, True, 7, 0)], [(1, 3, 1, 7, False)],
                [(1, 3, 1, 7, None)], [(1, 3, 1, 7, "0")], [((1, 3, 1, 7, 0),)], ["13170"]]:
            self.assertIs(is_paper((3, 1, 7), 1, paper), False, paper)

    def test_what_is_no_count_is_refused(self):
        for n in NOT_COUNTS:
            for paper in ([], paper_of((3, 1, 7), 6), [(n, 3, 1, 7, 0)]):
                self.assertRaises(NoCount, is_paper, (3, 1, 7), n, paper)

    def test_what_is_no_stair_is_refused_ahead_of_all_else(self):
        for thing in NOT_STAIRS:
            for n in [0, 6] + NOT_COUNTS:
                for paper in ([], paper_of((3, 1, 7), 6)):
                    self.assertRaises(NoStair, is_paper, thing, n, paper)


class Taken(unittest.TestCase):

    def test_of_single_rows(self):
        self.assertEqual(taken([(6, 3, 1, 7, 0)]), 0)
        self.assertEqual(taken([(6, 3, 15, 7, 2)]), 30 + 12)
        self.assertEqual(taken([(6, 3, -1, 7, 2)]), 30 - 6)
        self.assertEqual(taken([(5, 3, 0, 7, -3)]), -30)
        self.assertEqual(taken([(1, 9, 9, 9, 9)]), 1)
        self.assertEqual(taken([(0, 9, 9, 9, 9)]), 0)
        self.assertEqual(taken([(-3, 9, 20, 9, 5)]), 5 * 6 - 3 * 2)
        self.assertEqual(taken([(3, 0, 0, 1, 1)]), 3)
        self.assertEqual(taken([]), 0)

    def test_rows_are_added_though_they_make_no_paper(self):
        self.assertEqual(taken([(6, 3, 15, 7, 2), (5, 3, 0, 7, -3), (-3, 9, 20, 9, 5)]), 42 - 30 + 24)
        self.assertEqual(taken([(6, 3, 15, 7, 2)] * 3000), 42 * 3000)

    def test_what_is_handed_in_stays(self):
        paper = paper_of((34, 7, 55), 100)
        kept = list(paper)
        self.assertEqual(taken(paper), plain_sum((34, 7, 55), 100))
        self.assertIs(is_paper((34, 7, 55), 100, paper), True)
        self.assertIs(is_paper((34, 7, 54), 100, paper), False)
        self.assertEqual(paper, kept)
        paper.clear()
        self.assertEqual(paper_of((34, 7, 55), 100), kept)
        self.assertIs(is_paper((34, 7, 55), 100, kept), True)


if __name__ == "__main__":
    unittest.main()

import unittest

from stairsum.counts import often
from stairsum.errors import NoCount, NoStair
from stairsum.lows import highest, lowest, lows
from tests.samples import (
    BIG, FIBONACCI, GREAT_STAIRS, MOST, NOT_COUNTS, NOT_STAIRS, OTHER_BIG, SMALL_STAIRS, plain_rest)

WIDER_STAIRS = [
    (a, b, m) for m in (89, 90, 144, 200) for b in (0, 1, -1, 57, 88) for a in (1, -1, 7, -13, 34, 55, -89, 99, 60)]


def plain_lows(rests):
    """All lows as (place, rest), by going through all places."""
    found = []
    for k, left in enumerate(rests):
        if not found or left < found[-1][1]:
            found.append((k, left))
    return found


def plain_runs(found):
    """The lows put to runs, each as long as the lows go on by the same step."""
    steps = [(late[0] - early[0], early[1] - late[1]) for early, late in zip(found, found[1:])]
    runs = []
    at = 0
    while at < len(steps):
        times = 1
        while at + times < len(steps) and steps[at + times] == steps[at]:
            times += 1
        runs.append(found[at] + steps[at] + (times,))
        at += times
    return runs


class Lows(unittest.TestCase):

    def check_form(self, stair, n, runs):
        """What every list of runs keeps to, however great the numbers are."""
        self.assertIs(type(runs), list)
        at = (0, plain_rest(stair, 0))
        for run in runs:
            self.assertIs(type(run), tuple)
            self.assertEqual([type(part) for part in run], [int] * 5)
            place, left, on, down, times = run
            self.assertEqual((place, left), at, (stair, n))
            self.assertTrue(on > 0 and down > 0 and times > 0, (stair, n, run))
            self.assertEqual(plain_rest(stair, place + on), left - down)
            at = (place + on * times, left - down * times)
            self.assertTrue(at[0] < n and at[1] >= 0, (stair, n, run))
            self.assertEqual(plain_rest(stair, at[0]), at[1])
            further = at[0] + on
            self.assertFalse(further < n and at[1] >= down, (stair, n, run))
        return at

    def check(self, stair, counts):
        rests = [plain_rest(stair, k) for k in range(max(counts))]
        for n in counts:
            runs = lows(stair, n)
            self.check_form(stair, n, runs)
            self.assertEqual(runs, plain_runs(plain_lows(rests[:n])), (stair, n))
            least, most = min(rests[:n]), max(rests[:n])
            self.assertEqual(lowest(stair, n), (least, rests.index(least)), (stair, n))
            self.assertEqual(highest(stair, n), (most, rests.index(most)), (stair, n))

    def test_told_runs(self):
        # The rests of this stair at the places 0 to 6 are 8, 6, 4, 2, 0, 9, 7.
        self.assertEqual(lows((-2, 8, 11), 7), [(0, 8, 1, 2, 4)])
        self.assertEqual(lows((-2, 8, 11), 4), [(0, 8, 1, 2, 3)])
        self.assertEqual(lows((-2, 8, 11), 2), [(0, 8, 1, 2, 1)])
        self.assertEqual(lows((-2, 8, 11), 1), [])
        # Here they are 9, 5, 1, 8, 4, 0, with lows at 0, 1, 2 and 5.
        self.assertEqual(lows((-4, 9, 11), 11), [(0, 9, 1, 4, 2), (2, 1, 3, 1, 1)])
        self.assertEqual(lows((-4, 9, 11), 5), [(0, 9, 1, 4, 2)])
        self.assertEqual(lows((3, 1, 7), 7), [(0, 1, 2, 1, 1)])

    def test_told_lowest_and_highest(self):
        # The rests of this stair at the places 0 to 6 are 1, 4, 0, 3, 6, 2, 5.
        self.assertEqual([lowest((3, 1, 7), n) for n in range(1, 8)], [(1, 0)] * 2 + [(0, 2)] * 5)
        told = [(1, 0), (4, 1), (4, 1), (4, 1), (6, 4), (6, 4), (6, 4)]
        self.assertEqual([highest((3, 1, 7), n) for n in range(1, 8)], told)
        self.assertEqual(lowest((3, 1, 7), MOST), (0, 2))
        self.assertEqual(highest((3, 1, 7), MOST), (6, 4))
        # Of places with the same rest the first one is told.
        self.assertEqual(lowest((0, 5, 9), MOST), (5, 0))
        self.assertEqual(highest((0, 5, 9), MOST), (5, 0))
        self.assertEqual(highest((2, 0, 4), 10), (2, 1))
        self.assertEqual(lowest((2, 2, 4), 10), (0, 1))

    def test_small_stairs_through_all_places(self):
        for stair in SMALL_STAIRS:
            self.check(stair, (1, 2, 3, 5, 14))

    def test_wider_stairs_through_all_places(self):
        for stair in WIDER_STAIRS:
            self.check(stair, (1, 2, 20, 89, 250))

    def test_many_counts_through_all_places(self):
        for stair in [(34, 88, 89), (-34, 50, 89), (55, 143, 144), (700, 999, 1009), (-37, 990, 1000)]:
            self.check(stair, list(range(1, 300)))

    def test_great_stairs_through_some_places(self):
        for stair in GREAT_STAIRS:
            self.check(stair, (1, 2, 150))

    def test_the_empty_list_where_0_is_the_only_low(self):
        for stair, n in [((3, 0, 7), MOST), ((0, 5, 9), MOST), ((1, 5, 9), 4), ((4, -9, 1), MOST), ((5, 4, 10), MOST),
                         ((1, 0, BIG), MOST), ((1, BIG // 2, BIG), MOST), ((-2, 8, 11), 1), ((BIG, 7, OTHER_BIG), 1)]:
            self.assertEqual(lows(stair, n), [], (stair, n))
            self.assertEqual(lowest(stair, n), (plain_rest(stair, 0), 0))

    def test_a_run_ends_where_the_places_end(self):
        stair = (-3, 10 ** 40, 10 ** 50)
        self.assertEqual(lows(stair, MOST), [(0, 10 ** 40, 1, 3, MOST - 1)])
        self.assertEqual(lows(stair, 8), [(0, 10 ** 40, 1, 3, 7)])
        self.assertEqual(lowest(stair, MOST), (10 ** 40 - 3 * (MOST - 1), MOST - 1))
        self.assertEqual(highest(stair, MOST), (10 ** 40, 0))

    def test_greatest_counts_with_few_runs(self):
        for stair in GREAT_STAIRS:
            m = stair[2]
            for n in (10 ** 12, 10 ** 25 + 1, MOST):
                runs = lows(stair, n)
                self.assertTrue(len(runs) < 300, (stair, n))
                place, left = self.check_form(stair, n, runs)
                self.assertEqual(lowest(stair, n), (left, place))
                # None is lower, and none ahead of it is as low.
                self.assertEqual(often(stair, n, 0, left), 0, (stair, n))
                self.assertEqual(often(stair, place, 0, left + 1), 0, (stair, n))
                most, place = highest(stair, n)
                self.assertEqual(plain_rest(stair, place), most)
                self.assertEqual(often(stair, n, most + 1, m), 0, (stair, n))
                self.assertEqual(often(stair, place, most, m), 0, (stair, n))

    def test_no_low_is_left_out_between_two_told_ones(self):
        for stair in GREAT_STAIRS:
            for place, left, on, down, times in lows(stair, MOST):
                self.assertEqual(often(stair, place + on, 0, left), 0, (stair, place))
                last = place + on * (times - 1)
                self.assertEqual(often(stair, last + on, 0, left - down * (times - 1)), 0, (stair, place))
                # Of the lows of a run no other place is within them and ahead.
                self.assertEqual(often(stair, last + on + 1, 0, left), times, (stair, place))

    def test_many_runs_where_numbers_shrink_slowly(self):
        stair = (-FIBONACCI[-2], FIBONACCI[-1] - 1, FIBONACCI[-1])
        self.assertTrue(len(lows(stair, MOST)) > 20)
        self.check_form(stair, MOST, lows(stair, MOST))

    def test_down_to_0_in_a_period(self):
        for a, b, m in [
                (10 ** 28 + 3, 77, 10 ** 29 + 1), (-10 ** 28 - 3, -5, 10 ** 29 + 1), (7, 10 ** 29, 10 ** 30 - 7)]:
            place = -b * pow(a, -1, m) % m
            self.assertEqual(lowest((a, b, m), MOST), (0, place))
            self.assertEqual(lowest((a, b, m), place + 1), (0, place))
            self.assertTrue(lowest((a, b, m), place)[0] > 0)
            place = (-1 - b) * pow(a, -1, m) % m
            self.assertEqual(highest((a, b, m), MOST), (m - 1, place))
            self.assertTrue(highest((a, b, m), place)[0] < m - 1)

    def test_each_list_is_the_askers_own(self):
        told = [(0, 9, 1, 4, 2), (2, 1, 3, 1, 1)]
        first = lows((-4, 9, 11), 11)
        second = lows((-4, 9, 11), 11)
        first.append((0, 0, 0, 0, 0))
        first[0] = "changed"
        self.assertEqual(second, told)
        self.assertEqual(lows((-4, 9, 11), 11), told)
        self.assertEqual(lowest((-4, 9, 11), 11), (0, 5))
        empty = lows((3, 0, 7), 5)
        empty.append(1)
        self.assertEqual(lows((3, 0, 7), 5), [])
        self.assertEqual(lows((0, 0, 1), 5), [])

    def test_what_is_no_count_is_refused_and_so_is_0(self):
        for ask in (lows, lowest, highest):
            for stair in [(3, 1, 7), (0, 0, 1), (BIG, 3, OTHER_BIG)]:
                for n in [0] + NOT_COUNTS:
                    self.assertRaises(NoCount, ask, stair, n)

    def test_what_is_no_stair_is_refused_ahead_of_all_else(self):
        for ask in (lows, lowest, highest):
            for thing in NOT_STAIRS:
                for n in [0, 3, MOST] + NOT_COUNTS:
                    self.assertRaises(NoStair, ask, thing, n)


if __name__ == "__main__":
    unittest.main()

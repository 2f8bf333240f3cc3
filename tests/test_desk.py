import unittest

from stairsum.counts import often
from stairsum.desk import Desk
from stairsum.errors import (
    NoBounds, NoCount, NoName, NoPartner, NoRise, NoRow, NoSteps, NothingLeft, NoText, NoWalker, TooMany)
from stairsum.hits import hit
from stairsum.lows import lowest
from stairsum.partners import partner, turned
from stairsum.stairs import least
from stairsum.sums import sum_of
from stairsum.texts import stair_text
from tests.samples import MOST, SMALL_STAIRS, bounds_of, plain_height, plain_rest

STAIRS = SMALL_STAIRS[::41] + [(MOST, -MOST, MOST - 1), (-10 ** 28, 3, 10 ** 29 + 9), (10 ** 29, 0, 10 ** 29)]

FORMS = {
    "stair": "NAME STAIR", "drop": "NAME", "names": "", "show": "NAME", "least": "NAME", "turned": "NAME",
    "partner": "NAME", "at": "NAME N", "sum": "NAME N", "often": "NAME N N N", "hit": "NAME N N N", "lowest": "NAME N",
    "steps": "NAME N", "walk": "NAME", "go": "N", "find": "N N", "back": "", "where": "",
}
GOOD_WORDS = {"NAME": "a", "STAIR": "3k+1/7", "N": "1"}
WRONG_NAMES = [
    "", "A", "aB", "a1", "1", "a-b", "a_b", "abcdefghi", "a" * 100, "a\n", "\na", "a\t", "\u00e4", "\u00aa", "\u03b1",
    "none!", ".", "3k+1/7", "-", "\n", "a,b",
]
WRONG_NUMBERS = [
    "", "-", "+1", "-0", "00", "01", "-01", "1-", "1_0", "1.0", "a", "1a", "1\n", "\n1", "\t1", "\u0663", "\u00b2",
    "1" + "0" * 30, "-1" + "0" * 30, "9" * 31, "none", "\n", "True",
]
WRONG_STAIRS = ["", "3", "3k+1", "3k+1/0", "3k-0/7", "03k+1/7", "3k+1/-7", "3k+1/7\n", "k+1/7", "3k1/7", "a", "(3,1,7)",
                "1" + "0" * 30 + "k+1/7", "3k+1/1" + "0" * 30]
NOT_ROWS = [
    "", " ", "  ", "\n", "x", "stairs", "Stair a 3k+1/7", "NAMES", "Names", "names ", " names", "names\n", "\nnames",
    "names a", "names  ", "stair", "stair a", "stair a 3k+1/7 ", " stair a 3k+1/7", "stair a 3k +1/7",
    "stair a 3k+1/7 x",
    "drop", "drop a b", "drop a ", "show", "show a a", "least", "least a 1", "turned", "turned a 1", "partner",
    "partner a 1", "at a", "at a 1 2", "sum a", "sum a 1 2", "often a 1 2", "often a 1 2 3 4", "hit a 1 2",
    "hit a 1 2 3 4",
    "lowest a", "lowest a 1 2", "steps a", "steps a 1 2", "walk", "walk a b", "walk a 1", "go", "go 1 2", "go 1 ",
    "find 1", "find 1 2 3", "find", "back 1", "back ", "back a", "where a", "where ", "where 1", "a", "3k+1/7",
    "ok", "none",
    "highest a 1", "put a", "height a 1", "rest a 1", "total", "place", "read a", "stair\ta\t3k+1/7",
    "names\t", "go\n1",
    "at\na 1", "walker a", "say names", "est a",
]
NOT_TEXTS = [None, True, False, 0, 1, -5, [], ["names"], (), ("names",), [["names"]], ("sum", "a", 1)]


def words_for(form, **other):
    return [other.get(kind, GOOD_WORDS[kind]) for kind in form.split()]


class DeskCase(unittest.TestCase):

    def desk_with(self, *rows):
        desk = Desk()
        for row in rows:
            desk.say(row)
        return desk

    def refused(self, error, desk, row):
        kept = self.all_of(desk)
        with self.assertRaises(error) as caught:
            desk.say(row)
        self.assertIs(type(caught.exception), error, row)
        self.assertEqual(self.all_of(desk), kept, row)

    def all_of(self, desk):
        """All that the desk keeps, as it tells it."""
        names = desk.say("names")
        told = [] if names == "none" else [(name, desk.say("show " + name)) for name in names.split(" ")]
        try:
            return names, told, desk.say("where")
        except NoWalker:
            return names, told, None


class Answers(DeskCase):

    def test_told_answers(self):
        desk = Desk()
        for row, answer in [
                ("names", "none"), ("stair a 3k+1/7", "ok"), ("stair b -17k-9/5", "ok"), ("names", "a b"),
                ("show a", "3k+1/7"), ("show b", "-17k-9/5"), ("stair c 6k+5/4", "ok"), ("least c", "3k+2/2"),
                ("turned a", "7k+1/3"), ("stair d 17k+9/5", "ok"), ("partner d", "17k+7/12"), ("at a 5", "2 2"),
                ("at a -3", "-2 6"), ("sum a 6", "5"), ("sum b 0", "0"), ("often a 6 1 4", "3"), ("hit a 5 7 2", "11"),
                ("hit a 4 4 0", "none"), ("lowest a 7", "0 2"), ("steps a 8", "lhllhlhl"), ("steps a 0", "none"),
                ("walk a", "ok"), ("where", "0 0 1 0"), ("go 5", "3"), ("where", "5 2 2 3"), ("find 5 7", "1"),
                ("where", "6 2 5 5"), ("find 3 3", "none"), ("back", "ok"), ("where", "5 2 2 3"), ("back", "ok"),
                ("where", "0 0 1 0"), ("drop a", "ok"), ("names", "b c d"), ("go 2", "0")]:
            told = desk.say(row)
            self.assertIs(type(told), str)
            self.assertEqual(told, answer, row)

    def test_each_row_that_asks_a_stair(self):
        for stair in STAIRS:
            a, b, m = stair
            desk = self.desk_with("stair x " + stair_text(stair))
            self.assertEqual(desk.say("show x"), stair_text(stair))
            self.assertEqual(desk.say("least x"), stair_text(least(stair)))
            if a > 0:
                self.assertEqual(desk.say("turned x"), stair_text(turned(stair)))
            if a > m:
                self.assertEqual(desk.say("partner x"), stair_text(partner(stair)))
            for k in (0, 1, -7, MOST, -MOST):
                self.assertEqual(desk.say(f"at x {k}"), f"{plain_height(stair, k)} {plain_rest(stair, k)}")
            for n in (0, 1, 9, MOST):
                self.assertEqual(desk.say(f"sum x {n}"), str(sum_of(stair, n)))
                if n > 0:
                    self.assertEqual(desk.say(f"lowest x {n}"), " ".join(str(part) for part in lowest(stair, n)))
                for low, high in bounds_of(m)[::4] if m < 10 else [(0, m), (m // 3, m // 2)]:
                    self.assertEqual(desk.say(f"often x {n} {low} {high}"), str(often(stair, n, low, high)))
                    place = hit(stair, low, high, n)
                    self.assertEqual(desk.say(f"hit x {low} {high} {n}"), "none" if place is None else str(place))
            if 0 <= a <= m:
                text = "".join("lh"[plain_height(stair, k + 1) - plain_height(stair, k)] for k in range(30))
                self.assertEqual(desk.say("steps x 30"), text)
                self.assertEqual(desk.say("steps x 1"), text[0])
                self.assertEqual(desk.say("steps x 0"), "none")
                self.assertEqual(len(desk.say("steps x 2000")), 2000)

    def test_numbers_of_more_than_thirty_figures_are_told_whole(self):
        desk = self.desk_with(f"stair x {MOST}k+5/1", f"stair y {MOST}k-7/{MOST - 1}", f"stair z 1k+0/{MOST}")
        total = MOST * (MOST * (MOST - 1) // 2) + 5 * MOST
        self.assertTrue(len(str(total)) > 80)
        self.assertEqual(desk.say(f"sum x {MOST}"), str(total))
        self.assertEqual(desk.say(f"at x -{MOST}"), f"{5 - MOST * MOST} 0")
        self.assertEqual(desk.say(f"hit z 7 8 {MOST}"), str(7 + MOST * MOST))
        desk.say("walk x")
        for each in range(3):
            desk.say(f"go {MOST}")
        place = 3 * MOST
        self.assertEqual(
            desk.say("where"), f"{place} {MOST * place + 5} 0 {MOST * (place * (place - 1) // 2) + 5 * place}")

    def test_a_stair_of_longer_numbers_is_told_whole(self):
        desk = self.desk_with(f"stair x {MOST}k-{MOST}/2")
        told = desk.say("turned x")
        self.assertEqual(told, stair_text((2, 2 * MOST - 1, MOST)))
        self.assertIn(str(2 * MOST - 1), told)
        self.refused(NoText, desk, "stair y " + told)

    def test_names_rise_as_texts_do(self):
        desk = Desk()
        names = ["b", "ab", "a", "abc", "aa", "z", "abcdefgh", "zz", "abcdefg", "ba", "stair", "names", "none", "ok"]
        for name in names:
            desk.say(f"stair {name} 1k+0/1")
        self.assertEqual(desk.say("names"), " ".join(sorted(names)))
        desk.say("drop ab")
        self.assertEqual(desk.say("show abc"), "1k+0/1")
        self.assertEqual(desk.say("show a"), "1k+0/1")
        self.refused(NoName, desk, "show ab")
        self.assertEqual(desk.say("names"), " ".join(sorted(name for name in names if name != "ab")))

    def test_a_name_has_its_newest_stair(self):
        desk = self.desk_with("stair a 3k+1/7", "stair a 2k-1/5")
        self.assertEqual((desk.say("names"), desk.say("show a")), ("a", "2k-1/5"))
        desk.say("drop a")
        self.assertEqual(desk.say("names"), "none")
        self.refused(NoName, desk, "drop a")
        desk.say("stair a 6k+5/4")
        self.assertEqual(desk.say("show a"), "6k+5/4")

    def test_the_stair_is_kept_as_it_was_written(self):
        desk = self.desk_with("stair a 6k-500/4")
        self.assertEqual(desk.say("show a"), "6k-500/4")


class Walking(DeskCase):

    def test_the_walker_goes_on_whatever_becomes_of_its_name(self):
        desk = self.desk_with("stair a 3k+1/7", "walk a", "go 5")
        kept = desk.say("where")
        desk.say("stair a 1k+0/1")
        self.assertEqual(desk.say("where"), kept)
        desk.say("drop a")
        self.assertEqual(desk.say("where"), kept)
        self.assertEqual(desk.say("find 5 7"), "1")
        self.assertEqual(desk.say("where"), "6 2 5 5")
        self.assertEqual([desk.say("back"), desk.say("back")], ["ok", "ok"])
        self.refused(NothingLeft, desk, "back")

    def test_a_new_walker_begins_anew(self):
        desk = self.desk_with("stair a 3k+1/7", "stair b 5k+2/1", "walk a", "go 5", "walk b")
        self.assertEqual(desk.say("where"), "0 2 0 0")
        self.refused(NothingLeft, desk, "back")
        desk.say("go 3")
        desk.say("walk b")
        self.refused(NothingLeft, desk, "back")
        self.assertEqual(desk.say("where"), "0 2 0 0")

    def test_to_go_or_to_find_by_0_places_is_taken_back(self):
        desk = self.desk_with("stair a 3k+1/7", "walk a")
        self.assertEqual([desk.say("go 0"), desk.say("find 1 2"), desk.say("find 2 2")], ["0", "0", "none"])
        self.assertEqual([desk.say("back"), desk.say("back")], ["ok", "ok"])
        self.refused(NothingLeft, desk, "back")

    def test_two_desks_know_nothing_of_each_other(self):
        one, other = Desk(), Desk()
        one.say("stair a 3k+1/7")
        self.assertEqual(other.say("names"), "none")
        other.say("stair a 1k+0/1")
        one.say("walk a")
        self.refused(NoWalker, other, "where")
        other.say("walk a")
        one.say("go 5")
        self.assertEqual((one.say("where"), other.say("where")), ("5 2 2 3", "0 0 0 0"))
        other.say("drop a")
        self.assertEqual((one.say("show a"), other.say("names")), ("3k+1/7", "none"))
        self.refused(NothingLeft, other, "back")
        self.assertEqual(one.say("back"), "ok")


class Refusals(DeskCase):

    def desks(self):
        """Desks with and without stairs and a walker."""
        return [
            Desk(), self.desk_with("stair a 3k+1/7"), self.desk_with("stair a 3k+1/7", "walk a", "go 5"),
            self.desk_with("stair b 3k+1/7", "walk b", "drop b")]

    def test_what_is_none_of_the_rows(self):
        for desk in self.desks():
            for row in NOT_ROWS + NOT_TEXTS:
                self.refused(NoRow, desk, row)

    def test_too_many_or_too_few_words_go_ahead_of_wrong_words(self):
        for desk in self.desks():
            for word, form in FORMS.items():
                many = len(form.split())
                for other in range(7):
                    if other != many:
                        for part in ("", "a", "1", "A", "x\n"):
                            self.refused(NoRow, desk, " ".join([word] + [part] * other))

    def test_each_row_with_good_words_is_known(self):
        for word, form in FORMS.items():
            desk = self.desk_with("stair a 3k+1/7", "walk a", "go 1")
            row = " ".join([word] + words_for(form))
            if word != "partner":
                self.assertIs(type(desk.say(row)), str, row)

    def test_words_are_parted_by_each_single_blank(self):
        desk = self.desk_with("stair a 3k+1/7", "walk a", "go 5")
        # Two blanks side by side make an empty word, which is no name, no stair and no number.
        self.refused(NoName, desk, "stair  3k+1/7")
        self.refused(NoText, desk, "stair a ")
        self.refused(NoName, desk, "show ")
        self.refused(NoName, desk, "sum  1")
        self.refused(NoText, desk, "sum a ")
        self.refused(NoText, desk, "find  1")
        self.refused(NoText, desk, "find 1 ")
        self.refused(NoText, desk, "go ")
        self.refused(NoRow, desk, "stair a  3k+1/7")
        self.refused(NoRow, desk, "show  a")
        self.refused(NoRow, desk, " show a")
        self.refused(NoRow, desk, "sum a  1")

    def test_wrong_names(self):
        for desk in self.desks():
            for word, form in FORMS.items():
                if "NAME" in form:
                    for name in WRONG_NAMES:
                        self.refused(NoName, desk, " ".join([word] + words_for(form, NAME=name)))
                        # From the left, so the name goes ahead of what stands behind it.
                        self.refused(NoName, desk, " ".join([word] + words_for(form, NAME=name, N="x", STAIR="x")))

    def test_names_by_which_no_stair_stands(self):
        for desk in self.desks():
            for word, form in FORMS.items():
                if "NAME" in form and word != "stair":
                    for name in ("b" if desk.say("names") == "none" else "c", "aa", "abcdefgh", "ab"):
                        self.refused(NoName, desk, " ".join([word] + words_for(form, NAME=name)))
                        self.refused(NoName, desk, " ".join([word] + words_for(form, NAME=name, N="x")))

    def test_a_new_name_need_not_stand(self):
        for name in ("a", "b", "abcdefgh", "zzzzzzzz", "stair"):
            desk = self.desk_with("stair a 3k+1/7")
            self.assertEqual(desk.say(f"stair {name} 1k+0/1"), "ok")
            self.assertEqual(desk.say(f"show {name}"), "1k+0/1")

    def test_wrong_stairs(self):
        for desk in self.desks():
            for text in WRONG_STAIRS:
                self.refused(NoText, desk, "stair a " + text)
                self.refused(NoText, desk, "stair new " + text)

    def test_wrong_numbers(self):
        for desk in (self.desk_with("stair a 3k+1/7"), self.desk_with("stair a 3k+1/7", "walk a", "go 5")):
            for word, form in FORMS.items():
                kinds = form.split()
                for at in range(len(kinds)):
                    if kinds[at] == "N":
                        for number in WRONG_NUMBERS:
                            words = words_for(form)
                            words[at] = number
                            self.refused(NoText, desk, " ".join([word] + words))

    def test_wrong_numbers_go_ahead_of_no_walker(self):
        for desk in (Desk(), self.desk_with("stair a 3k+1/7")):
            for number in WRONG_NUMBERS:
                self.refused(NoText, desk, "go " + number)
                self.refused(NoText, desk, f"find {number} 1")
                self.refused(NoText, desk, f"find 1 {number}")

    def test_no_walker(self):
        for desk in (Desk(), self.desk_with("stair a 3k+1/7")):
            for row in ("go 1", "go 0", "go -1", "find 0 1", "find 1 0", "find -1 0", "find 0 99", "back", "where"):
                self.refused(NoWalker, desk, row)

    def test_wrong_numbers_go_ahead_of_what_the_functions_refuse(self):
        desk = self.desk_with("stair a -3k+1/7", "walk a")
        self.refused(NoText, desk, "often a -1 0 x")
        self.refused(NoText, desk, "often a -1 9 01")
        self.refused(NoText, desk, "hit a 9 0 x")
        self.refused(NoText, desk, "find 9 x")
        self.refused(NoText, desk, "steps a x")

    def test_what_the_functions_refuse(self):
        desk = self.desk_with("stair a 3k+1/7", "stair down -3k+1/7", "stair flat 0k+1/7", "stair up 9k+1/7",
                              "walk a", "go 5")
        for error, rows in [
                (NoCount, ["sum a -1", "lowest a 0", "lowest a -1", "steps a -1", "steps up -1", "go -1",
                           "often a -1 0 1",
                           "often a -1 1 0", "hit a 0 1 -1", "hit a 1 1 -1", f"sum a -{MOST}"]),
                (TooMany, ["steps a 2001", "steps up 2001", f"steps a {MOST}"]),
                (NoSteps, ["steps up 0", "steps up 2000", "steps down 5"]),
                (NoRise, ["turned flat", "turned down"]),
                (NoPartner, ["partner a", "partner flat", "partner down"]),
                (NoBounds, ["often a 1 1 0", "often a 1 0 8", "often a 1 -1 3", "hit a 1 0 1", "hit a 0 8 1",
                            "hit a -1 0 -1",
                            "find 1 0", "find 0 8", "find -1 0"])]:
            for row in rows:
                self.refused(error, desk, row)
        desk.say("back")
        self.refused(NothingLeft, desk, "back")

    def test_what_is_refused_is_no_deed_of_the_walker(self):
        desk = self.desk_with("stair a 3k+1/7", "walk a", "go 5")
        for row in ("go -1", "find 1 0", "find 3 3", "go x", "walk b", "walk A", "back 1"):
            try:
                self.assertEqual(desk.say(row), "none")
            except (NoCount, NoBounds, NoText, NoName, NoRow):
                pass
        self.assertEqual(desk.say("where"), "5 2 2 3")
        self.assertEqual(desk.say("back"), "ok")
        self.refused(NothingLeft, desk, "back")

    def test_the_method_stands_in_the_class_itself(self):
        self.assertIn("say", vars(Desk))


if __name__ == "__main__":
    unittest.main()

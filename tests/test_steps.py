import unittest
from itertools import product

from stairsum.errors import NoCount, NoStair, NoSteps, NoText, TooMany
from stairsum.steps import stair_of, step_text
from tests.samples import (
    BIG, FIBONACCI, MOST, NOT_COUNTS, NOT_STAIRS, OTHER_BIG, plain_height)

SMALL = [(a, b, m) for m in range(1, 9) for a in range(m + 1) for b in range(-9, 10)]
GREAT = [
    (BIG, OTHER_BIG, OTHER_BIG), (OTHER_BIG - BIG, -BIG, OTHER_BIG), (3, -OTHER_BIG, BIG), (1, BIG - 1, BIG),
    (BIG - 1, 0, BIG), (0, BIG, OTHER_BIG), (BIG, 5, BIG), (FIBONACCI[-2], OTHER_BIG, FIBONACCI[-1]),
    (FIBONACCI[-3], -7, FIBONACCI[-1]), (10 ** 29 + 1, 5, 10 ** 30 + 57), (4 * 10 ** 29 + 9, 10 ** 30, 10 ** 30 + 57),
    (10 ** 97 + 3, 10 ** 98, 10 ** 99 - 1), (BIG // 2, BIG // 3, BIG),
]
NOT_STEP_STAIRS = [
    (-1, 0, 1), (2, 0, 1), (-1, 5, 7), (8, 5, 7), (-7, 0, 7), (14, 0, 7), (-BIG, 3, OTHER_BIG), (BIG, 3, BIG - 1),
]
NOT_TEXTS = [
    None, True, False, 0, 1, -1, BIG, [], ["l"], ["l", "h"], (), ("l", "h"), ("lh",), [["l"]], ((),),
    " ", "L", "H", "lH", "lh ", " lh", "l h", "lh\n", "\n", "lhx", "xlh", "0", "01", "1k+0/2", "i", "l" * 199 + "x",
    "l" * 201, "h" * 201, "lh" * 101, "x" * 201, "l" * 4000,
]


def plain_text(stair, n):
    signs = {0: "l", 1: "h"}
    return "".join(signs[plain_height(stair, k + 1) - plain_height(stair, k)] for k in range(n))


def texts_of_stairs(n):
    """Each text of n steps that is of a stair with m up to n + 2, with the first such stair, by m, then a, then b."""
    found = {}
    for m in range(1, n + 3):
        for a in range(m + 1):
            for b in range(m):
                found.setdefault(plain_text((a, b, m), n), (a, b, m))
    return found


def has_text(stair, text):
    return plain_text(stair, len(text)) == text


class StepText(unittest.TestCase):

    def test_told_texts(self):
        self.assertEqual(step_text((3, 1, 7), 8), "lhllhlhl")
        self.assertEqual(step_text((3, 1, 7), 0), "")
        self.assertEqual(step_text((1, 0, 2), 5), "lhlhl")
        self.assertEqual(step_text((1, 1, 2), 5), "hlhlh")

    def test_heights_one_by_one(self):
        for stair in SMALL:
            for n in (0, 1, 2, 19):
                self.assertEqual(step_text(stair, n), plain_text(stair, n), (stair, n))

    def test_some_hundreds_and_the_most(self):
        for stair in [(3, 1, 7), (34, -5, 89), (89, 3, 89), (0, 3, 89), (1, 88, 89), (88, 0, 89)] + GREAT:
            for n in (0, 1, 377, 2000):
                self.assertEqual(step_text(stair, n), plain_text(stair, n), (stair, n))

    def test_both_ends(self):
        for m in (1, 2, 7, BIG):
            for b in (0, -1, m - 1, m, OTHER_BIG):
                self.assertEqual(step_text((0, b, m), 9), "l" * 9)
                self.assertEqual(step_text((m, b, m), 9), "h" * 9)

    def test_too_many(self):
        for stair in [(3, 1, 7), (0, 0, 1)] + NOT_STEP_STAIRS:
            for n in (2001, 2002, 10 ** 9, MOST):
                self.assertRaises(TooMany, step_text, stair, n)

    def test_no_steps(self):
        for stair in NOT_STEP_STAIRS:
            for n in (0, 1, 2000):
                self.assertRaises(NoSteps, step_text, stair, n)

    def test_what_is_no_count_is_refused_ahead_of_too_many_and_no_steps(self):
        for stair in [(3, 1, 7)] + NOT_STEP_STAIRS:
            for n in NOT_COUNTS:
                self.assertRaises(NoCount, step_text, stair, n)

    def test_what_is_no_stair_is_refused_ahead_of_all_else(self):
        for thing in NOT_STAIRS:
            for n in [0, 3, 2001] + NOT_COUNTS:
                self.assertRaises(NoStair, step_text, thing, n)

    def test_the_same_asked_again(self):
        self.assertEqual(step_text((34, 7, 55), 300), step_text((34, 7, 55), 300))


class StairOf(unittest.TestCase):

    def check_pieces(self, text, told):
        self.assertEqual([type(part) for part in told], [str, int, int, int])
        word, one, other, many = told
        self.assertEqual(word, "pieces")
        self.assertTrue(0 <= one and 0 <= other and 0 < many, (text, told))
        self.assertTrue(one + many <= len(text) and other + many <= len(text), (text, told))
        more = text[one:one + many].count("h") - text[other:other + many].count("h")
        self.assertTrue(more >= 2, (text, told))

    def check_least(self, text, told):
        """That no lesser stair has the text, by each m and a that rises by about as much over it."""
        word, (a, b, m) = told
        many, highs = len(text), text.count("h")
        sums = [text[:at].count("h") for at in range(many + 1)]
        for other in range(1, m + 1):
            begin, end = 0, other
            if many > 0:
                begin = max(0, (highs - 1) * other // many)
                end = min(other, (highs + 1) * other // many + 1)
            for rise in range(begin, end + 1):
                least = max(other * h - rise * k for k, h in enumerate(sums))
                most = min(other * h + other - 1 - rise * k for k, h in enumerate(sums))
                if (other, rise) == (m, a):
                    self.assertEqual(max(least, 0), b, text)
                    return
                self.assertTrue(least > most, (text, told, (rise, least, other)))
        self.fail((text, told))

    def check(self, text):
        told = stair_of(text)
        self.assertIs(type(told), tuple)
        if told[0] == "pieces":
            self.check_pieces(text, told)
            return "pieces"
        self.assertEqual((len(told), told[0]), (2, "stair"))
        self.assertEqual([type(part) for part in told[1]], [int, int, int])
        a, b, m = told[1]
        self.assertTrue(0 <= a <= m and 0 <= b < m)
        self.assertTrue(has_text(told[1], text), (text, told))
        self.check_least(text, told)
        return "stair"

    def test_told_answers(self):
        self.assertEqual(stair_of(""), ("stair", (0, 0, 1)))
        self.assertEqual(stair_of("l"), ("stair", (0, 0, 1)))
        self.assertEqual(stair_of("h"), ("stair", (1, 0, 1)))
        self.assertEqual(stair_of("lh"), ("stair", (1, 0, 2)))
        self.assertEqual(stair_of("hl"), ("stair", (1, 1, 2)))
        self.assertEqual(stair_of("llhh"), ("pieces", 2, 0, 2))
        self.assertEqual(stair_of("l" * 200), ("stair", (0, 0, 1)))
        self.assertEqual(stair_of("h" * 200), ("stair", (1, 0, 1)))

    def test_every_text_of_up_to_eleven_signs(self):
        for n in range(12):
            stairs = texts_of_stairs(n)
            for signs in product("lh", repeat=n):
                text = "".join(signs)
                told = stair_of(text)
                if text in stairs:
                    self.assertEqual(told, ("stair", stairs[text]))
                else:
                    self.check_pieces(text, told)

    def test_never_the_stair_where_such_pieces_are(self):
        for signs in product("lh", repeat=10):
            text = "".join(signs)
            spread = 0
            for many in range(1, 11):
                highs = [text[at:at + many].count("h") for at in range(11 - many)]
                spread = max(spread, max(highs) - min(highs))
            self.assertEqual(stair_of(text)[0], "pieces" if spread > 1 else "stair", text)

    def test_long_texts_of_stairs(self):
        stairs = [(3, 1, 7), (34, -5, 89), (55, 143, 144), (1, 0, 199), (1, 0, 200), (1, 0, 201), (200, 3, 201),
                  (1, 100, 201), (99, 7, 199), (101, 0, 200), (0, 0, 1), (1, 0, 1)]
        for stair in stairs + GREAT:
            whole = plain_text(stair, 200)
            for text in (whole, whole[:199], whole[3:150], whole[77:], whole[1:90]):
                self.assertEqual(self.check(text), "stair")

    def test_one_sign_otherwise(self):
        answers = []
        other = {"l": "h", "h": "l"}
        for stair in [(3, 1, 7), (34, -5, 89), (0, 0, 1), (1, 0, 1), (1, 0, 150)] + GREAT[:4]:
            whole = plain_text(stair, 200)
            for at in (0, 1, 57, 100, 198, 199):
                answers.append(self.check(whole[:at] + other[whole[at]] + whole[at + 1:]))
        self.assertTrue("stair" in answers and "pieces" in answers)

    def test_periodic_texts(self):
        for piece in ("l", "h", "lh", "hl", "llh", "hhl", "lhlhh", "llhh", "lhhl", "l" * 30 + "h", "lhl" + "llh"):
            text = (piece * 200)[:200]
            self.check(text)
            self.check(text[:-1])
        self.assertEqual(self.check("llhh" * 50), "pieces")
        self.assertEqual(self.check("l" * 100 + "h" * 100), "pieces")
        self.assertEqual(self.check("l" * 100 + "h" + "l" * 99), "stair")
        self.assertEqual(self.check("h" + "l" * 198 + "h"), "stair")

    def test_the_least_stair_is_told_for_each_text_of_a_small_stair(self):
        for a, b, m in [(2, 4, 5), (3, 6, 7), (5, 0, 8), (21, 13, 34)]:
            # Over so many steps no lesser m goes along with the stair.
            told = stair_of(step_text((a, b, m), 150))
            self.assertEqual(told[1][0::2], (a, m))

    def test_what_is_no_text_of_steps_is_refused(self):
        for thing in NOT_TEXTS:
            self.assertRaises(NoText, stair_of, thing)

    def test_the_same_asked_again(self):
        for text in ("", "lhlhh", "llhh", "lhl" * 60):
            self.assertEqual(stair_of(text), stair_of(text))


if __name__ == "__main__":
    unittest.main()

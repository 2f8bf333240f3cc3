import sys
import unittest

from stairsum.errors import NoStair, NoText
from stairsum.papers import is_paper, paper_of
from stairsum.texts import paper_text, read_paper, read_stair, stair_text
from tests.samples import BIG, GREAT_STAIRS, MOST, NOT_STAIRS, OTHER_BIG, SMALL_STAIRS

NOT_TEXTS = [None, True, False, 0, 1, -7, BIG, [], ["3k-2/7"], (), (3, -2, 7), ("3k-2/7",), [(1, 2, 3, 4, 5)], [[]]]
THIRTY = "1" + "0" * 29
THIRTY_ONE = "1" + "0" * 30

# What is no whole number so written, or one of more than thirty figures.
WRONG_NUMBERS = [
    "", "-", "+", "--1", "-+1", "+-1", "+1", "+0", "-0", "00", "01", "-01", "-00", "007", "1-", "1+", " 1", "1 ", "- 1",
    "1 2", "1_0", "1.0", "1e3", "0x1", "a", "1a", "a1", "1\n", "\n1", "1\t", "\u0663", "\u00b2", "\uff11", "1\u0663",
    THIRTY_ONE, "-" + THIRTY_ONE, "9" * 31, "0" * 30, "0" + THIRTY, "1" * 100, "1" * 4000, "k", "/", "none",
]
WRONG_STAIRS = [
    "", " ", "k", "/", "k/", "k+/", "3", "3k", "3k-2", "3k-2/", "k-2/7", "3k/7", "3k-/7", "3k2/7", "3-2/7",
    "3k-2", "-2/7",
    "3k-2/0", "3k+2/0", "0k+0/0", "3k-2/-7", "3k-2/+7", "3k-0/7", "3k+-2/7", "3k--2/7", "3k++2/7", "3k-+2/7",
    "+3k-2/7", "-0k+2/7", "--3k+2/7", "03k-2/7", "3k-02/7", "3k+00/7", "3k-2/07", "3k-2/00",
    " 3k-2/7", "3k-2/7 ", "3 k-2/7", "3k -2/7", "3k- 2/7", "3k-2 /7", "3k-2/ 7", "3k - 2 / 7",
    "3k-2/7\n", "\n3k-2/7", "3k\n-2/7", "3kk-2/7", "3k-2//7", "3k-2/7/7", "3k-2/7k", "3k-2/7k+0/1", "3K-2/7", "3j-2/7",
    "k3-2/7", "3/7", "3k-2:7", "3*k-2/7", "(3, -2, 7)", "3,-2,7", "3 -2 7", "3k-2/7,", "3k-2/7.", "3.0k-2/7",
    "1_0k-2/7",
]
WRONG_PAPERS = [
    "", " ", "\n", "1 2 3 4", "1 2 3 4 5 6", "1 2 3 4 ", " 1 2 3 4 5", "1 2 3 4 5 ", "1  2 3 4 5", "1 2 3 4  5",
    "1 2 3 4 5\n", "\n1 2 3 4 5", "1 2 3 4 5\n\n1 2 3 4 5", "1 2 3 4 5\n1 2 3 4", "1 2 3 4\n5", "1 2 3 4 5\n ",
    "1 2 3 4 5\r\n1 2 3 4 5", "1,2,3,4,5", "1\t2\t3\t4\t5", "1 2 3 4 5;1 2 3 4 5", "(1, 2, 3, 4, 5)",
    "1 2 3 4 5 1 2 3 4 5",
    "1 2 3 4 5\r1 2 3 4 5", "1 2 3 4 5\x0b1 2 3 4 5", "1 2 3 4 5 \n1 2 3 4 5", "1 2 3 4 5\n 1 2 3 4 5",
]


class StairTexts(unittest.TestCase):

    def test_told_texts(self):
        self.assertEqual(stair_text((3, -2, 7)), "3k-2/7")
        self.assertEqual(stair_text((-1, 0, 1)), "-1k+0/1")
        self.assertEqual(stair_text((0, 0, 1)), "0k+0/1")
        self.assertEqual(stair_text((10, 20, 30)), "10k+20/30")
        self.assertEqual(read_stair("3k-2/7"), (3, -2, 7))
        self.assertEqual(read_stair("-1k+0/1"), (-1, 0, 1))

    def test_both_ways(self):
        for stair in SMALL_STAIRS + [(a, b, m) for a in (0, 999, -10 ** 29, MOST, -MOST) for b in (0, 60, MOST, -MOST)
                                     for m in (1, 100, 10 ** 29, MOST)]:
            text = stair_text(stair)
            a, b, m = stair
            self.assertEqual(text, str(a) + "k" + format(b, "+") + "/" + str(m))
            told = read_stair(text)
            self.assertIs(type(told), tuple)
            self.assertEqual(told, stair)
            self.assertEqual([type(part) for part in told], [int, int, int])

    def test_numbers_of_thirty_figures_are_read_and_longer_ones_refused(self):
        for form in ("{}k+1/7", "-{}k+1/7", "3k+{}/7", "3k-{}/7", "3k+1/{}"):
            self.assertEqual(stair_text(read_stair(form.format(THIRTY))), form.format(THIRTY))
            self.assertEqual(stair_text(read_stair(form.format("9" * 30))), form.format("9" * 30))
            for number in (THIRTY_ONE, "9" * 31, "1" * 100):
                self.assertRaises(NoText, read_stair, form.format(number))

    def test_longer_numbers_are_written_by_all_their_figures(self):
        for a, b, m in GREAT_STAIRS:
            self.assertEqual(stair_text((a, b, m)), str(a) + "k" + format(b, "+") + "/" + str(m))
            self.assertRaises(NoText, read_stair, stair_text((BIG, b, m)))

    def test_however_many_figures(self):
        # Beyond some thousands of figures Python's own str refuses.
        for figures in (59, 60, 61, 119, 120, 121, 4299, 4300, 4301, 20000):
            power = "1" + "0" * (figures - 1)
            number = 10 ** (figures - 1)
            self.assertEqual(stair_text((number, -number, number)), power + "k-" + power + "/" + power)
            self.assertEqual(stair_text((-number, number, number)), "-" + power + "k+" + power + "/" + power)
            nines = "9" * figures
            self.assertEqual(stair_text((10 * number - 1, 0, 1)), nines + "k+0/1")
            self.assertEqual(stair_text((number + 7, 0, 1)), power[:-1] + "7k+0/1")
        number = BIG ** 50 + OTHER_BIG
        kept = sys.get_int_max_str_digits()
        text = stair_text((number, 0, 1))
        sys.set_int_max_str_digits(0)
        try:
            self.assertEqual(text, str(number) + "k+0/1")
        finally:
            sys.set_int_max_str_digits(kept)

    def test_what_is_otherwise_written_is_refused(self):
        for text in WRONG_STAIRS:
            self.assertRaises(NoText, read_stair, text)
        for number in WRONG_NUMBERS:
            self.assertRaises(NoText, read_stair, number + "k-2/7")
            self.assertRaises(NoText, read_stair, number)
            self.assertRaises(NoText, read_stair, "3k-" + number + "/7")
            self.assertRaises(NoText, read_stair, "3k+" + number + "/7")
            self.assertRaises(NoText, read_stair, "3k-2/" + number)

    def test_one_sign_more_or_less_or_otherwise(self):
        # What is read is just what is written: any other text of the signs is none, or another stair's text.
        for text in ("3k-2/7", "-10k+0/1", "0k-20/30"):
            texts = [text[:at] + text[at + 1:] for at in range(len(text))]
            for sign in "0123456789k+-/ \n":
                texts += [text[:at] + sign + text[at:] for at in range(len(text) + 1)]
                texts += [text[:at] + sign + text[at + 1:] for at in range(len(text))]
            for other in texts:
                try:
                    stair = read_stair(other)
                except NoText:
                    continue
                self.assertEqual(stair_text(stair), other)

    def test_what_is_no_text_is_refused(self):
        for thing in NOT_TEXTS:
            self.assertRaises(NoText, read_stair, thing)

    def test_what_is_no_stair_is_not_written(self):
        for thing in NOT_STAIRS:
            self.assertRaises(NoStair, stair_text, thing)


class PaperTexts(unittest.TestCase):

    def test_told_texts(self):
        paper = [(6, 3, 1, 7, 0), (2, 7, 5, 3, 2), (1, 3, 1, 1, 3)]
        text = "6 3 1 7 0\n2 7 5 3 2\n1 3 1 1 3"
        self.assertEqual(paper_text(paper), text)
        self.assertEqual(read_paper(text), paper)
        self.assertEqual(paper_text([(0, -1, -20, 1, -1)]), "0 -1 -20 1 -1")

    def test_both_ways(self):
        for stair in SMALL_STAIRS[::13] + [(MOST, -MOST, MOST - 1), (-10 ** 28, 3, 10 ** 29 + 9)]:
            for n in (0, 1, 20, 10 ** 9):
                paper = paper_of(stair, n)
                text = paper_text(paper)
                self.assertEqual(text, "\n".join(" ".join(str(part) for part in row) for row in paper))
                if all(abs(part) <= MOST for row in paper for part in row):
                    told = read_paper(text)
                    self.assertEqual(told, paper)
                    self.assertTrue(is_paper(stair, n, told))
                    self.assertEqual({type(row) for row in told}, {tuple})

    def test_a_paper_that_is_one_of_no_stair_is_read(self):
        for paper in [[(0, 0, 0, 0, 0)], [(-1, -2, -3, -4, -5)] * 3, [(1, 2, 3, 4, 5), (9, 8, 7, -6, 0)],
                      [(MOST, -MOST, 0, -1, MOST)] * 200]:
            self.assertEqual(read_paper(paper_text(paper)), paper)

    def test_numbers_of_thirty_figures_are_read_and_longer_ones_refused(self):
        for at in range(5):
            for sign in ("", "-"):
                words = ["1", "-2", "3", "0", "5"]
                words[at] = sign + THIRTY
                self.assertEqual(read_paper(" ".join(words))[0][at], int(sign + THIRTY))
                self.assertEqual(paper_text(read_paper("1 2 3 4 5\n" + " ".join(words))),
                                 "1 2 3 4 5\n" + " ".join(words))
                words[at] = sign + THIRTY_ONE
                self.assertRaises(NoText, read_paper, " ".join(words))
                self.assertRaises(NoText, read_paper, "1 2 3 4 5\n" + " ".join(words))

    def test_longer_numbers_are_written_by_all_their_figures(self):
        for stair in GREAT_STAIRS:
            paper = paper_of(stair, MOST)
            text = paper_text(paper)
            self.assertEqual(text, "\n".join(" ".join(str(part) for part in row) for row in paper))
        self.assertEqual(paper_text([(10 ** 5000, 0, -10 ** 5000, 1, 2)]), f"1{'0' * 5000} 0 -1{'0' * 5000} 1 2")

    def test_what_is_otherwise_written_is_refused(self):
        for text in WRONG_PAPERS:
            self.assertRaises(NoText, read_paper, text)
        for number in WRONG_NUMBERS:
            for at in range(5):
                words = ["1", "2", "3", "4", "5"]
                words[at] = number
                self.assertRaises(NoText, read_paper, " ".join(words))
                self.assertRaises(NoText, read_paper, "1 2 3 4 5\n" + " ".join(words) + "\n1 2 3 4 5")

    def test_what_is_no_text_is_refused(self):
        for thing in NOT_TEXTS:
            self.assertRaises(NoText, read_paper, thing)

    def test_lists_are_the_askers_own_and_what_is_handed_in_stays(self):
        first, second = read_paper("1 2 3 4 5"), read_paper("1 2 3 4 5")
        self.assertIs(type(first), list)
        first.append("more")
        first[0] = "changed"
        self.assertEqual(second, [(1, 2, 3, 4, 5)])
        self.assertEqual(read_paper("1 2 3 4 5"), second)
        paper_text(second)
        self.assertEqual(second, [(1, 2, 3, 4, 5)])


if __name__ == "__main__":
    unittest.main()

"""How numbers, stairs and papers are written and read."""

from stairsum.errors import NoText
from stairsum.stairs import need_stair

FIGURES = "0123456789"
MOST_FIGURES = 30
PIECE_FIGURES = 60
PIECE_END = 10 ** 60
ROW_NUMBERS = 5


def number_text(number):
    """The number, written by all its figures."""
    # Python itself refuses to write numbers of some thousands of figures, so they are written piece by piece.
    left = abs(number)
    pieces = []
    while left >= PIECE_END:
        left, piece = divmod(left, PIECE_END)
        pieces.append(str(piece).zfill(PIECE_FIGURES))
    pieces.append(str(left))
    pieces.append("-" if number < 0 else "")
    return "".join(reversed(pieces))


def numbers_text(numbers):
    """The numbers with one blank between."""
    return " ".join([number_text(number) for number in numbers])


def stair_text(stair):
    """The stair, written as a, k, the sign of b, b without sign, /, m."""
    need_stair(stair)
    a, b, m = stair
    sign = "-" if b < 0 else "+"
    return f"{number_text(a)}k{sign}{number_text(abs(b))}/{number_text(m)}"


def paper_text(paper):
    """The paper's rows, parted by line feeds."""
    return "\n".join([numbers_text(row) for row in paper])


def need_text(thing):
    """Refuse what is no text."""
    if not isinstance(thing, str):
        raise NoText("only texts are read")


def read_figures(text):
    """The number from 0 on that is so written, without a sign."""
    if not 1 <= len(text) <= MOST_FIGURES or not all([sign in FIGURES for sign in text]):
        raise NoText("a number has one to thirty figures")
    if text[0] == "0" and text != "0":
        raise NoText("a number has no nought ahead")
    return int(text)


def read_number(text):
    """The whole number that is so written."""
    if not text.startswith("-"):
        return read_figures(text)
    number = read_figures(text[1:])
    if number == 0:
        raise NoText("0 is written without a sign")
    return -number


def read_stair(text):
    """The stair that is so written."""
    need_text(text)
    rise, k, behind = text.partition("k")
    begin, stroke, bottom = behind.partition("/")
    if k == "" or stroke == "" or begin[:1] not in ("+", "-"):
        raise NoText("a stair is written as 3k-2/7")
    a = read_number(rise)
    b = read_figures(begin[1:]) if begin[0] == "+" else read_number(begin)
    m = read_figures(bottom)
    if m == 0:
        raise NoText("no stair has an m of 0")
    return (a, b, m)


def read_row(text):
    """The row of a paper that is so written."""
    words = text.split(" ")
    if len(words) != ROW_NUMBERS:
        raise NoText("a row has five numbers with one blank between")
    return tuple([read_number(word) for word in words])


def read_paper(text):
    """The paper that is so written, as a list of rows; it need not be one of any stair."""
    need_text(text)
    return [read_row(row) for row in text.split("\n")]

"""Things that several tests hand in, and the form of a paper, written once more, plainly."""

from fractions import Fraction
from math import floor

BIG = 10 ** 99 + 7 * 10 ** 60 + 123456789
OTHER_BIG = 9 * 10 ** 99 + 31 * 10 ** 47 + 987654321
MOST = 10 ** 30 - 1

NOT_STAIRS = [
    (), (1,), (1, 2), (1, 2, 3, 4), (1, 2, 3, 4, 5),
    (1, 2, 0), (1, 2, -1), (0, 0, 0), (1, 2, -BIG), (-1, -2, -3),
    (True, 2, 3), (False, 2, 3), (1, True, 3), (1, False, 3), (1, 2, True), (1, 2, False),
    (True, True, True),
    [], [1, 2, 3], [(1, 2, 3)],
    "", "abc", "1k+2/3", ("1", "2", "3"), ("a", 2, 3), (1, "b", 3), (1, 2, "c"),
    None, (None, 2, 3), (1, None, 3), (1, 2, None),
    True, False, 0, 1, 7,
    ((1, 2, 3),), ((1, 2, 3), 2, 3), (1, (2,), 3), (1, 2, (3,)), ((1, 2, 3), (1, 2, 3), (1, 2, 3)),
    ([1], 2, 3), (1, [2], 3), (1, 2, [3]),
]

NOT_COUNTS = [
    -1, -2, -10 ** 30, -BIG, 10 ** 30, 10 ** 30 + 1, BIG,
    True, False, None, "", "3", [], [3], (), (3,),
]

NOT_POWERS = [-1, 3, -2, 4, -BIG, BIG, True, False, None, "", "1", [], [1], (), (1,)]

SMALL_STAIRS = [(a, b, m) for m in range(1, 7) for a in range(-8, 9) for b in range(-8, 9)]

BIG_STAIRS = [
    (BIG, OTHER_BIG, 1), (BIG, OTHER_BIG, 7), (BIG, -OTHER_BIG, OTHER_BIG), (-BIG, OTHER_BIG, 10 ** 50 + 151),
    (OTHER_BIG, BIG, BIG), (-OTHER_BIG, -BIG, BIG - 2), (3, -OTHER_BIG, BIG), (0, BIG, OTHER_BIG),
    (BIG, 0, BIG), (-1, 0, BIG), (1, BIG - 1, BIG), (10 ** 29 + 1, 5, 10 ** 30 + 57),
]

# A common divisor of two numbers of the Fibonacci row is sought in more steps than of any others.
FIBONACCI = [1, 2]
while FIBONACCI[-1] < 10 ** 99:
    FIBONACCI.append(FIBONACCI[-1] + FIBONACCI[-2])

# Stairs of a hundred figures whose rests take few steps down, or many, or go by small or great leaps.
GREAT_STAIRS = BIG_STAIRS + [
    (FIBONACCI[-2], OTHER_BIG, FIBONACCI[-1]), (-FIBONACCI[-3], BIG, FIBONACCI[-1]), (FIBONACCI[-1], -5, FIBONACCI[-2]),
    (10 ** 70 + 1, 5 * 10 ** 98, 10 ** 99 - 1), (-10 ** 50 - 3, 7, OTHER_BIG), (6 * BIG, OTHER_BIG, 10 * BIG),
]


def plain_height(stair, k):
    """The height by Python's own fractions, which the program does not use."""
    a, b, m = stair
    return floor(Fraction(a * k + b, m))


def plain_rest(stair, k):
    a, b, m = stair
    return a * k + b - plain_height(stair, k) * m


def plain_sum(stair, n):
    return sum(plain_height(stair, k) for k in range(n))


def bounds_of(m):
    """All bounds for a stair of this m."""
    return [(low, high) for low in range(m + 1) for high in range(low, m + 1)]


def not_bounds(m):
    """What is no bounds for a stair of this m, as pairs."""
    return [
        (-1, m), (-1, 0), (-1, -1), (-BIG, m), (0, m + 1), (m, m + 1), (m + 1, m + 1), (0, BIG + m), (-1, m + 1),
        (1, 0), (m, m - 1), (m, 0), (m + 1, m), (BIG + m, 0), (0, -1),
        (True, m), (0, True), (False, m), (0, False), (None, m), (0, None), ("0", m), (0, "1"), ([0], m), (0, (m,)),
    ]


def great_bounds(m):
    """Some bounds for a stair of a great m: wide ones, narrow ones, at either end and within."""
    narrow = m // 10 ** 20 + 1
    return [
        (0, m // 2), (m // 3, m // 2), (m - m // 7, m), (0, narrow), (m // 3, m // 3 + narrow), (m - narrow, m),
        (0, m - 1), (1, m),
    ]


def has_form(stair, n, paper):
    """Point 8, word by word, for lists of tuples of five whole numbers."""
    if not paper or paper[0][:4] != (n,) + stair:
        return False
    for at, (many, a, b, m, rise) in enumerate(paper):
        r = a - rise * m
        s = b - floor(Fraction(b, m)) * m
        if r < 0:
            return False
        y = floor(Fraction(r * many + s, m))
        t = r * many + s - y * m
        is_last = at == len(paper) - 1
        if (y == 0) != is_last:
            return False
        if not is_last and (r == 0 or paper[at + 1][:4] != (y, m, t, r)):
            return False
    return True


def written_paper(stair, n, less):
    """A paper whose row number j has a rise that is less[j] below the greatest; behind these the greatest."""
    many, (a, b, m) = n, stair
    paper = []
    while True:
        below = less[len(paper)] if len(paper) < len(less) else 0
        rise = floor(Fraction(a, m)) - below
        paper.append((many, a, b, m, rise))
        r = a - rise * m
        s = b - floor(Fraction(b, m)) * m
        y = floor(Fraction(r * many + s, m))
        if y == 0:
            return paper
        many, a, b, m = y, m, r * many + s - y * m, r

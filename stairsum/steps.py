"""Texts of steps, l for a low one and h for a high one, and which stair has such a text."""

from stairsum.errors import NoSteps, NoText, TooMany
from stairsum.stairs import need_stair
from stairsum.sums import need_count

MOST_STEPS = 2000
LONGEST_TEXT = 200


def step_text(stair, n):
    """The text of the n steps from the place 0 on."""
    need_stair(stair)
    need_count(n)
    if n > MOST_STEPS:
        raise TooMany("at most two thousand steps are told at once")
    a, b, m = stair
    if not 0 <= a <= m:
        raise NoSteps("a stair steps by 0 or 1 where a is from 0 to m")
    signs = []
    left = b % m
    for number in range(n):
        left += a
        signs.append("h" if left >= m else "l")
        left -= m if left >= m else 0
    return "".join(signs)


def need_steps(thing):
    """Refuse what is no text of l and h alone, or too long."""
    if not isinstance(thing, str) or len(thing) > LONGEST_TEXT or not all([sign in ("l", "h") for sign in thing]):
        raise NoText("a text of steps has at most two hundred signs, l and h alone")


def heights_of(text):
    """The heights, from 0 on, at the beginning of the text and behind each step."""
    told = [0]
    for sign in text:
        told.append(told[-1] + (1 if sign == "h" else 0))
    return told


def rises_over(told, many):
    """How many h each piece of many signs has, by the place at which it begins."""
    return [told[at + many] - told[at] for at in range(len(told) - many)]


def least_between(low, high):
    """The numbers (a, m) of the least m, then of the least a from 0 on, with a / m above low and below high."""
    m = 1
    while True:
        a = max(0, low[0] * m // low[1] + 1)
        if a * high[1] < high[0] * m:
            return (a, m)
        m += 1


def stair_with(told, low, high):
    """The least stair with these heights, where a / m has to be above low and below high."""
    a, m = least_between(low, high)
    return (a, max([m * h - a * k for k, h in enumerate(told)]), m)


def stair_of(text):
    """The tuple ("stair", least stair of the text), or ("pieces", one, other, many) that shows there is none."""
    need_steps(text)
    told = heights_of(text)
    low, high = (-1, 1), (2, 1)
    for many in range(1, len(told)):
        rises = rises_over(told, many)
        least, most = min(rises), max(rises)
        if most - least >= 2:
            return ("pieces", rises.index(most), rises.index(least), many)
        # Over many places a stair rises by less than one more, or less, than many times a / m. As no
        # pieces differ by two, some a / m keeps to all of these bounds, and for each such one there is a b.
        if (most - 1) * low[1] > low[0] * many:
            low = (most - 1, many)
        if (least + 1) * high[1] < high[0] * many:
            high = (least + 1, many)
    return ("stair", stair_with(told, low, high))

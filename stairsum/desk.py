"""A desk, which is told rows of words and answers by texts."""

from stairsum.counts import often
from stairsum.errors import NoName, NoRow, NoWalker
from stairsum.hits import hit
from stairsum.lows import lowest
from stairsum.partners import partner, turned
from stairsum.stairs import height, least, rest
from stairsum.steps import step_text
from stairsum.sums import sum_of
from stairsum.texts import number_text, numbers_text, read_number, read_stair, stair_text
from stairsum.walkers import Walker

SMALL_LETTERS = "abcdefghijklmnopqrstuvwxyz"
LONGEST_NAME = 8

# What stands behind the first word of each row: a new name, one that is asked for its stair, one that is
# kept as a name, a stair, or a number.
FORMS = {
    "stair": ("new", "stair"),
    "drop": ("kept",),
    "names": (),
    "walk": ("name",),
    "show": ("name",),
    "least": ("name",),
    "turned": ("name",),
    "partner": ("name",),
    "at": ("name", "number"),
    "sum": ("name", "number"),
    "often": ("name", "number", "number", "number"),
    "hit": ("name", "number", "number", "number"),
    "lowest": ("name", "number"),
    "steps": ("name", "number"),
    "go": ("number",),
    "find": ("number", "number"),
    "back": (),
    "where": (),
}


def words_of(row):
    """The words of the row; refused is what is none of the rows."""
    if not isinstance(row, str):
        raise NoRow("a row is a text")
    words = row.split(" ")
    if words[0] not in FORMS or len(words) - 1 != len(FORMS[words[0]]):
        raise NoRow("the desk knows no such row")
    return words


def is_name(word):
    """Whether the word is one to eight small letters."""
    return 1 <= len(word) <= LONGEST_NAME and all([sign in SMALL_LETTERS for sign in word])


def number_or_none(number):
    """The number's text, or that there is none."""
    return "none" if number is None else number_text(number)


def keep_stair(desk, name, stair):
    desk.stairs[name] = stair
    return "ok"


def drop_stair(desk, name):
    del desk.stairs[name]
    return "ok"


def tell_names(desk):
    return " ".join(sorted(desk.stairs)) if len(desk.stairs) > 0 else "none"


def begin_walk(desk, stair):
    desk.walker = Walker(stair)
    return "ok"


def tell_stair(stair):
    return stair_text(stair)


def tell_least(stair):
    return stair_text(least(stair))


def tell_turned(stair):
    return stair_text(turned(stair))


def tell_partner(stair):
    return stair_text(partner(stair))


def tell_at(stair, k):
    return numbers_text((height(stair, k), rest(stair, k)))


def tell_sum(stair, n):
    return number_text(sum_of(stair, n))


def tell_often(stair, n, low, high):
    return number_text(often(stair, n, low, high))


def tell_hit(stair, low, high, n):
    return number_or_none(hit(stair, low, high, n))


def tell_lowest(stair, n):
    return numbers_text(lowest(stair, n))


def tell_steps(stair, n):
    text = step_text(stair, n)
    return "none" if text == "" else text


def go_on(walker, n):
    return number_text(walker.go(n))


def find_next(walker, low, high):
    return number_or_none(walker.find(low, high))


def take_back(walker):
    walker.back()
    return "ok"


def tell_where(walker):
    return numbers_text((walker.place(), walker.height(), walker.rest(), walker.total()))


DESK_ROWS = {"stair": keep_stair, "drop": drop_stair, "names": tell_names, "walk": begin_walk}
STAIR_ROWS = {
    "show": tell_stair, "least": tell_least, "turned": tell_turned, "partner": tell_partner, "at": tell_at,
    "sum": tell_sum, "often": tell_often, "hit": tell_hit, "lowest": tell_lowest, "steps": tell_steps,
}
WALKER_ROWS = {"go": go_on, "find": find_next, "back": take_back, "where": tell_where}


class Desk:
    """Stairs by names, and one walker at most."""

    def __init__(self):
        self.stairs = {}
        self.walker = None

    def say(self, row):
        """Tell the desk a row; its answer is a text."""
        word, *words = words_of(row)
        # All is read, from the left, ahead of anything that is done: what is refused changes nothing.
        told = [self.read(kind, part) for kind, part in zip(FORMS[word], words)]
        if word in STAIR_ROWS:
            answer = STAIR_ROWS[word]
            return answer(*told)
        if word in DESK_ROWS:
            answer = DESK_ROWS[word]
            return answer(self, *told)
        if self.walker is None:
            raise NoWalker("there is no walker at the desk")
        answer = WALKER_ROWS[word]
        return answer(self.walker, *told)

    def read(self, kind, word):
        """What the word tells, where one of this kind is wanted."""
        if kind == "number":
            return read_number(word)
        if kind == "stair":
            return read_stair(word)
        if not is_name(word) or (kind != "new" and word not in self.stairs):
            raise NoName("a name has one to eight small letters, and a stair stands by it")
        return self.stairs[word] if kind == "name" else word

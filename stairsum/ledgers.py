"""Ledgers, which keep sums of the heights of many stairs."""

from stairsum.errors import NoEntry, NothingLeft, TooMany
from stairsum.stairs import begun_at, height, is_whole, need_stair
from stairsum.sums import height_sum, need_count

MOST_ENTRIES = 200


def need_entry(page, number):
    """Refuse a number that no entry of the page has."""
    if not is_whole(number) or not 0 <= number < len(page):
        raise NoEntry("the ledger has no entry of that number")


def worth_of(entry, k):
    """What the entry is worth at the place k alone, 0 where it does not have the place."""
    stair, begin, many, times = entry
    return times * height(stair, k) if begin <= k < begin + many else 0


class Ledger:
    """Entries (stair, begin, count, times), and what they are worth together."""

    def __init__(self):
        # The page ahead of each deed, and behind all the one that holds now. A page is a tuple of pairs
        # of an entry and the sum of its heights, so that no sum is reckoned twice.
        self.pages = [()]

    def put(self, stair, k, n, times):
        """Put an entry behind all others; told is what the ledger is worth then."""
        need_stair(stair)
        need_count(n)
        page = self.pages[-1]
        if len(page) >= MOST_ENTRIES:
            raise TooMany("a ledger has at most two hundred entries")
        kept = ((stair, k, n, times), height_sum(begun_at(stair, k), n))
        self.pages.append(page + (kept,))
        return self.worth()

    def drop(self, number):
        """Drop the entry of the number; told is what the ledger is worth then."""
        page = self.pages[-1]
        need_entry(page, number)
        self.pages.append(page[:number] + page[number + 1:])
        return self.worth()

    def change(self, number, times):
        """Change the times of the entry of the number; told is what the ledger is worth then."""
        page = self.pages[-1]
        need_entry(page, number)
        entry, total = page[number]
        kept = ((entry[0], entry[1], entry[2], times), total)
        self.pages.append(page[:number] + (kept,) + page[number + 1:])
        return self.worth()

    def back(self):
        """Take back what was done last."""
        if len(self.pages) == 1:
            raise NothingLeft("the ledger has done nothing that is left to take back")
        self.pages.pop()

    def entries(self):
        """The entries in their order, as a list of tuples."""
        return [entry for entry, total in self.pages[-1]]

    def worth(self):
        """What all entries are worth together."""
        return sum([entry[3] * total for entry, total in self.pages[-1]])

    def worth_at(self, k):
        """What the entries that have the place k are worth there."""
        return sum([worth_of(entry, k) for entry, total in self.pages[-1]])

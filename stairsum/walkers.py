"""Walkers, who go along a stair by any leaps and take them back."""

from stairsum.counts import many_within, need_bounds
from stairsum.errors import NothingLeft
from stairsum.hits import next_within
from stairsum.stairs import begun_at, need_stair
from stairsum.sums import height_sum, need_count


class Walker:
    """One who stands on a stair, at the place 0 at first."""

    def __init__(self, stair):
        need_stair(stair)
        self.stair = stair
        # The place ahead of each deed, and behind all the one where it stands. All that is told comes
        # of the place alone, so it does not hang on the way there.
        self.stood = [0]

    def go(self, n):
        """Go on by n places; told is the sum of the heights at the places that are left."""
        need_count(n)
        here = self.stood[-1]
        left = height_sum(begun_at(self.stair, here), n)
        self.stood.append(here + n)
        return left

    def find(self, low, high):
        """Go on to the next place within the bounds, perhaps here; told is by how many places, or None."""
        need_bounds(self.stair, low, high)
        here = self.stood[-1]
        there = next_within(self.stair, low, high, here)
        if there is None:
            return None
        self.stood.append(there)
        return there - here

    def back(self):
        """Take back what was done last."""
        if len(self.stood) == 1:
            raise NothingLeft("the walker has done nothing that is left to take back")
        self.stood.pop()

    def place(self):
        """The place where it stands."""
        return self.stood[-1]

    def height(self):
        """The stair's height there."""
        a, b, m = self.stair
        return (a * self.stood[-1] + b) // m

    def rest(self):
        """The stair's rest there."""
        a, b, m = self.stair
        return (a * self.stood[-1] + b) % m

    def total(self):
        """The sum of the heights at all places from 0 on ahead of it."""
        return height_sum(self.stair, self.stood[-1])

    def often(self, low, high):
        """How many of the places from 0 on ahead of it are within the bounds."""
        need_bounds(self.stair, low, high)
        return many_within(self.stair, self.stood[-1], low, high)

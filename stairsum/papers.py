"""Papers: lists of rows (n, a, b, m, rise) that show how the numbers of a sum shrink."""

from stairsum.stairs import is_whole, need_stair
from stairsum.sums import need_count


def is_row(thing):
    """Whether the thing is a tuple of five whole numbers."""
    return isinstance(thing, tuple) and len(thing) == 5 and all([is_whole(part) for part in thing])


def left_by_rise(row):
    """What the rise leaves of the row's a."""
    a, m, rise = row[1], row[3], row[4]
    return a - rise * m


def row_behind(row):
    """The (n, a, b, m) that the row behind this one has, None where this row is the last one."""
    n, b, m = row[0], row[2], row[3]
    left = left_by_rise(row)
    top, over = divmod(left * n + b % m, m)
    if top == 0:
        return None
    # The top is above 0 only where left is, so the next row never has an m of 0.
    return (top, m, over, left)


def paper_of(stair, n):
    """The paper for the stair and the count that has the greatest rise in each row."""
    need_stair(stair)
    need_count(n)
    a, b, m = stair
    paper = []
    begun = (n, a, b, m)
    while begun is not None:
        many, a, b, m = begun
        row = (many, a, b, m, a // m)
        paper.append(row)
        begun = row_behind(row)
    return paper


def is_paper(stair, n, paper):
    """Whether the list is a paper for the stair and the count, whoever wrote it."""
    need_stair(stair)
    need_count(n)
    if not isinstance(paper, list):
        return False
    a, b, m = stair
    wanted = (n, a, b, m)
    for row in paper:
        # Behind a last row None is wanted, which no row equals. That a row's m is above 0 is
        # known only once the row is known to be the wanted one.
        if not is_row(row) or row[:4] != wanted or left_by_rise(row) < 0:
            return False
        wanted = row_behind(row)
    return wanted is None


def row_takes(row):
    """What one row takes."""
    n, b, m, rise = row[0], row[2], row[3], row[4]
    return rise * (n * (n - 1) // 2) + n * (b // m)


def taken(paper):
    """The sum of what the rows take; m is above 0 in each."""
    return sum([row_takes(row) for row in paper])

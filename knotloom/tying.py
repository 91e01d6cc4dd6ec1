"""How one row is tied, from what is told beforehand of the tyings."""

from knotloom.colours import are_colours


class Tyings:
    """The bytes told beforehand for one row, and how often tying was asked for in it."""

    def __init__(self, told):
        self.told = told
        self.place = 0
        self.asked = 0

    def ask(self, size):
        """The next tying of so many knots; None if the row is left by it."""
        # Counted ahead of all else: a tying by which the row is left was asked for too.
        self.asked += 1
        tying = self.told[self.place:self.place + size]
        self.place += size
        if len(tying) < size or not are_colours(tying):
            return None
        return tying


def tie_part(part, tries, tyings):
    """One knotter's part as they tied it last; None if the row is left."""
    tying = tyings.ask(len(part))
    been = 1
    while tying is not None and tying != part and been < tries:
        tying = tyings.ask(len(part))
        been += 1
    return tying


def tie_row(row, shares, tries, tyings):
    """The row as each knotter tied it last; None if the row is left."""
    knots = []
    for share in shares:
        start = len(knots)
        tying = tie_part(row[start:start + share], tries, tyings)
        if tying is None:
            return None
        knots.extend(tying)
    return knots


def wrong_columns(knots, row):
    """The columns, from the left, in which a done row's knots have another colour than the chart's row."""
    return [x for x, knot in enumerate(knots) if knot != row[x]]


def count_wrong(done, chart):
    """How many wrong knots the rows done have."""
    return sum([len(wrong_columns(knots, row)) for knots, row in zip(done, chart)])


def find_wrong(done, chart, k):
    """The column and the row of the k-th wrong knot of the rows done; None if there are not so many."""
    before = 0
    for y, knots in enumerate(done):
        columns = wrong_columns(knots, chart[y])
        if k < before + len(columns):
            return (columns[k - before], y)
        before += len(columns)
    return None

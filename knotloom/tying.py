"""How one row is tied, from what is told beforehand of the tyings."""

from knotloom.colours import are_colours


class Tyings:
    """The bytes told beforehand for one row, and how often tying was asked for in it."""

    def __init__(self, told):
        self.told = told
        self.place = 0
        self.asked = 0

    def ask(self, size):
        """The next tying of so many knots; None if the row is left by it."""
        # Counted ahead of all else: a tying by which the row is left was asked for too.
        self.asked += 1
        tying = self.told[self.place:self.place + size]
        self.place += size
        if len(tying) < size or not are_colours(tying):
            return None
        return tying


def tie_part(part, tries, tyings):
    """One knotter's part as they tied it last; None if the row is left."""
    tying = tyings.ask(len(part))
    been = 1
    while tying is not None and tying != part and been < tries:
        tying = tyings.ask(len(part))
        been += 1
    return tying


def tie_row(row, shares, tries, tyings):
    """The row as each knotter tied it last; None if the row is left."""
    knots = []
    for share in shares:
        start = len(knots)
        tying = tie_part(row[start:start + share], tries, tyings)
        if tying is None:
            return None
        knots.extend(tying)
    return knots


def count_wrong(knots, row):
    """How many of a done row's knots have another colour than the chart's row."""
    return sum([1 for knot, colour in zip(knots, row) if knot != colour])

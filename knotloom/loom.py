"""The loom and the calls on it; each call answers a list of numbers, a refusal is one below 0, alone."""

from knotloom.chart import read_chart
from knotloom.refusals import NO_CHART, NO_ROW, NO_SUCH_THING, NOT_BEGUN, OUT_OF_RANGE, ROW_IS_LEFT, TOO_LONG
from knotloom.tying import Tyings, count_wrong, tie_row

MOST_BYTES = 66048
MOST_KNOTTERS = 8
WIDEST_SHARE = 128
MOST_TRIES = 9
ASKED_MODULO = 4294967296


def are_shares(shares, width):
    """Whether each share is one that a knotter may have and they are the width together."""
    for share in shares:
        if share < 1 or share > WIDEST_SHARE:
            return False
    return sum(shares) == width


class Loom:
    """A loom, which is not begun as long as it has no chart."""

    def __init__(self):
        self.chart = None
        self.shares = []
        self.done = []
        self.asked = 0

    def begin(self, text, shares):
        """Begin, anew if need be, with a chart's text and the knotters' shares."""
        if len(text) > MOST_BYTES or len(shares) > MOST_KNOTTERS:
            return [TOO_LONG]
        if not shares:
            return [OUT_OF_RANGE]
        chart = read_chart(text)
        if chart is None:
            return [NO_CHART]
        if not are_shares(shares, len(chart[0])):
            return [OUT_OF_RANGE]
        self.chart = chart
        self.shares = list(shares)
        self.done = []
        self.asked = 0
        return [0]

    def row(self, tries, told):
        """Tie the next row: its wrong knots, and how often tying was asked for in it."""
        if tries < 1 or tries > MOST_TRIES:
            return [OUT_OF_RANGE]
        if self.chart is None:
            return [NOT_BEGUN]
        if len(self.done) == len(self.chart):
            return [NO_ROW]
        wanted = self.chart[len(self.done)]
        tyings = Tyings(told)
        knots = tie_row(wanted, self.shares, tries, tyings)
        # Kept even if the row is left: how often tying was asked for is all that stays of it.
        self.asked += tyings.asked
        if knots is None:
            return [ROW_IS_LEFT]
        self.done.append(knots)
        return [count_wrong(knots, wanted), tyings.asked]

    def unpick(self, k):
        """Undo the last k rows."""
        if self.chart is None:
            return [NOT_BEGUN]
        if k > len(self.done):
            return [NO_SUCH_THING]
        self.done = self.done[:len(self.done) - k]
        return [0]

    def now(self):
        """The loom's sizes, its rows done, their wrong knots, how often tying was asked for."""
        if self.chart is None:
            return [NOT_BEGUN]
        wrong_knots = sum([count_wrong(knots, row) for knots, row in zip(self.done, self.chart)])
        sizes = [len(self.chart[0]), len(self.chart), len(self.shares)]
        return [0] + sizes + [len(self.done), wrong_knots, self.asked % ASKED_MODULO]

"""The loom and the calls on it; each call answers a list of numbers, a refusal is one below 0, alone."""

from knotloom.calling import least_call
from knotloom.chart import read_chart, write_rows
from knotloom.colours import as_signs, colour_number, count_colours
from knotloom.refusals import NO_CHART, NO_ROW, NO_SUCH_THING, NOT_BEGUN, OUT_OF_RANGE, ROW_IS_LEFT, TOO_LONG
from knotloom.tying import Tyings, count_wrong, find_wrong, tie_row, wrong_columns

MOST_BYTES = 66048
MOST_KNOTTERS = 8
WIDEST_SHARE = 128
MOST_TRIES = 9
ASKED_MODULO = 4294967296


def are_shares(shares, width):
    """Whether each share is one that a knotter may have and they are the width together."""
    for share in shares:
        if share < 1 or share > WIDEST_SHARE:
            return False
    return sum(shares) == width


class Loom:
    """A loom, which is not begun as long as it has no chart."""

    def __init__(self):
        self.chart = None
        self.shares = []
        self.done = []
        self.asked = 0
        # By part: one list of calls may ask for the same part's call some hundred times.
        self.least_calls = {}

    def begin(self, text, shares):
        """Begin, anew if need be, with a chart's text and the knotters' shares."""
        if len(text) > MOST_BYTES or len(shares) > MOST_KNOTTERS:
            return [TOO_LONG]
        if not shares:
            return [OUT_OF_RANGE]
        chart = read_chart(text)
        if chart is None:
            return [NO_CHART]
        if not are_shares(shares, len(chart[0])):
            return [OUT_OF_RANGE]
        self.chart = chart
        self.shares = list(shares)
        self.done = []
        self.asked = 0
        return [0]

    def row(self, tries, told):
        """Tie the next row: its wrong knots, and how often tying was asked for in it."""
        if tries < 1 or tries > MOST_TRIES:
            return [OUT_OF_RANGE]
        if self.chart is None:
            return [NOT_BEGUN]
        if len(self.done) == len(self.chart):
            return [NO_ROW]
        wanted = self.chart[len(self.done)]
        tyings = Tyings(told)
        knots = tie_row(wanted, self.shares, tries, tyings)
        # Kept even if the row is left: how often tying was asked for is all that stays of it.
        self.asked += tyings.asked
        if knots is None:
            return [ROW_IS_LEFT]
        self.done.append(knots)
        return [len(wrong_columns(knots, wanted)), tyings.asked]

    def unpick(self, k):
        """Undo the last k rows."""
        if self.chart is None:
            return [NOT_BEGUN]
        if k > len(self.done):
            return [NO_SUCH_THING]
        self.done = self.done[:len(self.done) - k]
        return [0]

    def now(self):
        """The loom's sizes, its rows done, their wrong knots, how often tying was asked for."""
        if self.chart is None:
            return [NOT_BEGUN]
        sizes = [len(self.chart[0]), len(self.chart), len(self.shares)]
        return [0] + sizes + [len(self.done), count_wrong(self.done, self.chart), self.asked % ASKED_MODULO]

    def tied(self):
        """The text of the chart of the rows done, behind how many bytes it has."""
        if self.chart is None:
            return [NOT_BEGUN]
        if not self.done:
            return [NO_ROW]
        text = write_rows(self.done)
        return [len(text)] + text

    def wrong(self, k):
        """The column and the row of the k-th wrong knot, and the number of the colour that is tied."""
        if self.chart is None:
            return [NOT_BEGUN]
        place = find_wrong(self.done, self.chart, k)
        if place is None:
            return [NO_SUCH_THING]
        x = place[0]
        y = place[1]
        return [0, x, y, colour_number(self.done[y][x])]

    def wool(self):
        """Of each colour how many knots are tied."""
        if self.chart is None:
            return [NOT_BEGUN]
        return [0] + count_colours(self.done)

    def said(self, j):
        """The least call of knotter j's part of the next row, behind how many bytes it has."""
        if self.chart is None:
            return [NOT_BEGUN]
        if j >= len(self.shares):
            return [NO_SUCH_THING]
        if len(self.done) == len(self.chart):
            return [NO_ROW]
        start = sum(self.shares[:j])
        part = as_signs(self.chart[len(self.done)][start:start + self.shares[j]])
        if part not in self.least_calls:
            self.least_calls[part] = least_call(part)
        call = self.least_calls[part]
        return [len(call)] + [ord(sign) for sign in call]

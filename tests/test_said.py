"""The call said: whose part of which row, its refusals, and what comes of tying what is said."""

import random

from tests.helper import (COLOURS, GREATEST, NOW, TIED, WOOL, LoomCase, ask, begin, heard, row, said, text_answer,
                          unpick, wrong)


def as_text(answer):
    """The bytes that said answered, as a text; their count must be right."""
    if answer[0] != len(answer) - 1:
        raise ValueError(answer)
    return bytes(answer[1:]).decode("ascii")


class Parts(LoomCase):
    def test_each_knotter_from_the_left(self):
        start = begin("aabcddd/", 1, 2, 4)
        self.check((start, [0]), (said(0), text_answer("a")), (said(1), text_answer("a b")),
                   (said(2), text_answer("c 3*d")))

    def test_the_answer_number_by_number(self):
        self.check_last([begin("aab/", 1, 2), said(1)], [3, 97, 32, 98])
        self.check_last([begin("ababab/", 6), said(0)], [7, 51, 42, 40, 97, 32, 98, 41])

    def test_a_part_of_one_knot(self):
        for colour in COLOURS:
            self.check_last([begin(colour + "/", 1), said(0)], [1, ord(colour)])

    def test_repeats_do_not_reach_over_to_the_next_knotter(self):
        self.check((begin("aaaababab/", 2, 3, 4), [0]), (said(0), text_answer("2*a")), (said(1), text_answer("2*a b")),
                   (said(2), text_answer("2*(a b)")))

    def test_eight_knotters(self):
        calls = [begin("abcdefgh/", *[1] * 8)]
        for j in range(8):
            self.check_last(calls + [said(j)], [1, 97 + j])
        self.check_last(calls + [said(8)], [-4])

    def test_four_parts_of_128_knots(self):
        chart = "a" * 128 + "bc" * 64 + (COLOURS + "xy") * 2 + "d" * 127 + "e/"
        self.check((begin(chart, *[128] * 4), [0]), (said(0), text_answer("128*a")), (said(1), text_answer("64*(b c)")),
                   (said(2), text_answer("2*(" + " ".join(COLOURS + "xy") + ")")), (said(3), text_answer("127*d e")))


class TheNextRow(LoomCase):
    START = begin("ab/cc/dd/", 2)

    def check_said(self, calls, text):
        self.check_last([self.START] + calls + [said(0)], text_answer(text))

    def test_the_first_that_is_not_done(self):
        self.check_said([], "a b")
        self.check_said([row(1, "ab")], "2*c")
        self.check_said([row(1, "ab"), row(1, "cc")], "2*d")

    def test_the_chart_is_said_not_what_was_tied(self):
        self.check_said([row(1, "xx")], "2*c")
        self.check_said([row(1, "xx"), unpick(1)], "a b")

    def test_behind_unpick(self):
        self.check_said([row(1, "ab"), row(1, "cc"), unpick(1)], "2*c")
        self.check_said([row(1, "ab"), row(1, "cc"), row(1, "dd"), unpick(2)], "2*c")
        self.check_said([row(1, "ab"), unpick(0)], "2*c")

    def test_behind_a_row_that_is_left(self):
        self.check_said([row(1, "a")], "a b")
        self.check_said([row(1, "ab"), row(2, "c!")], "2*c")

    def test_behind_a_begin_anew(self):
        calls = [self.START, row(1, "ab"), said(0), begin("xyz/", 1, 2)]
        self.check_last(calls + [said(0)], text_answer("x"))
        self.check_last(calls + [said(1)], text_answer("y z"))
        self.check_last(calls + [said(2)], [-4])

    def test_behind_a_begin_that_is_refused(self):
        self.check_said([row(1, "ab"), begin("xyz/", 1, 1)], "2*c")

    def test_it_changes_nothing(self):
        calls = [self.START, row(1, "ab"), said(0), said(0), said(1)]
        self.check_last(calls + [NOW], [0, 2, 3, 1, 1, 0, 1])
        self.check_last(calls + [TIED], text_answer("ab/"))
        self.check_last(calls + [said(0)], text_answer("2*c"))
        self.check_last(calls + [row(1, "cc")], [0, 1])


class Refused(LoomCase):
    def test_no_knotter_j(self):
        for j in [2, 3, 8, 255, GREATEST]:
            self.check((begin("ab/", 1, 1), [0]), (said(j), [-4]), (NOW, [0, 2, 1, 2, 0, 0, 0]))

    def test_no_row_left(self):
        calls = [begin("ab/", 1, 1), row(1, "ax")]
        for j in [0, 1]:
            self.check_last(calls + [said(j)], [-5])
            self.check_last(calls + [said(j), NOW], [0, 2, 1, 2, 1, 1, 2])
            self.check_last(calls + [said(j), unpick(1), said(0)], [1, 97])

    def test_no_knotter_j_and_no_row_left(self):
        calls = [begin("ab/", 1, 1), row(1, "ab")]
        for j in [2, 3, GREATEST]:
            self.check_last(calls + [said(j)], [-4])

    def test_not_begun(self):
        for j in [0, 7, 8, GREATEST]:
            self.check((said(j), [-13]), (NOW, [-13]))


class WhatIsSaidIsTied(LoomCase):
    """Knotters who tie what they're said make the chart."""

    def make(self, chart, shares):
        """Lead the loom by what it says alone."""
        calls = [begin("/".join(chart) + "/", *shares)]
        for line in chart:
            given = ask(*calls, *[said(j) for j in range(len(shares))])[len(calls):]
            parts = [heard(as_text(answer)) for answer in given]
            self.assertEqual("".join(parts), line)
            self.assertEqual([len(part) for part in parts], shares)
            calls.append(row(1, "".join(parts)))
            self.check_last(calls, [0, len(shares)])
        self.check_last(calls + [TIED], text_answer("/".join(chart) + "/"))
        self.check_last(calls + [wrong(0)], [-4])
        sizes = [sum(shares), len(chart), len(shares)]
        self.check_last(calls + [NOW], [0] + sizes + [len(chart), 0, len(chart) * len(shares)])

    def test_the_chart_of_the_document(self):
        self.make(["aab", "abb"], [1, 2])

    def test_any_charts(self):
        chance = random.Random(7)
        for turn in range(40):
            shares = [chance.randint(1, 20) for knotter in range(chance.randint(1, 8))]
            colours = chance.choice(["ab", "01", "0123", "aA1", COLOURS])
            chart = ["".join(chance.choice(colours) for x in range(sum(shares))) for y in range(chance.randint(1, 4))]
            self.make(chart, shares)

    def test_a_chart_as_wide_as_may_be(self):
        self.make(["ab" * 256, "0" * 512, ("a" * 7 + "b") * 64, (COLOURS * 9)[:512]], [128] * 4)


class ManyCalls(LoomCase):
    """As many calls as may be handed in, of parts as wide as may be."""

    def test_one_loom(self):
        calls = [begin("ab" * 64 + "cd" * 64 + "0" * 128 + (COLOURS * 3)[:128] + "/", *[128] * 4)]
        given = ask(*calls, *[said(k % 4) for k in range(299)])
        self.assertEqual(len(given), 300)
        self.assertEqual(given[1:5], given[5:9])
        self.assertEqual(given[1:-4], given[5:])
        self.assertEqual(given[1:4], [text_answer("64*(a b)"), text_answer("64*(c d)"), text_answer("128*0")])

    def test_as_many_parts_as_may_be(self):
        chance = random.Random(8)
        calls = []
        parts = []
        for turn in range(56):
            lines = ["".join(chance.choice(COLOURS[turn:turn + 2]) for knot in range(1 + 40 * j)) for j in range(4)]
            chart = [(line * 128)[:128] for line in lines]
            calls += [begin("".join(chart) + "/", *[128] * 4)] + [said(j) for j in range(4)]
            parts += [None] + chart
        calls += [WOOL] * 20
        self.assertEqual(len(calls), 300)
        self.assertLessEqual(sum(len(call) for call in calls), 30000)
        for part, answer in zip(parts, ask(*calls)):
            if part is not None:
                self.assertEqual(heard(as_text(answer)), part)

"""The calls tied, wrong and wool: what they tell of the rows done, and of nothing else."""

import random

from tests.helper import (COLOURS, GREATEST, NOW, TIED, WOOL, LoomCase, ask, begin, row, said, text_answer, unpick,
                          wool_answer, wrong)

# Behind it (1, 0) is x, (0, 2) is Y, (1, 2) is 9: three wrong knots; the last row of the chart isn't done.
DONE = [begin("ab/cd/ef/gh/", 1, 1), row(1, "ax"), row(1, "cd"), row(2, "YYx9")]
DONE_TEXT = "ax/cd/Y9/"
DONE_WRONG = [[0, 1, 0, 23], [0, 0, 2, 50], [0, 1, 2, 61]]
DONE_WOOL = wool_answer(a=1, x=1, c=1, d=1, Y=1, n9=1)
NO_WOOL = wool_answer()


class ToldCase(LoomCase):
    def check_told(self, calls, text, wrong_knots, wool):
        """What tied (a refusal, if the text is empty), wrong and wool tell behind these calls."""
        self.check_last(calls + [TIED], text_answer(text) if text else [-5])
        for k, knot in enumerate(wrong_knots):
            self.check_last(calls + [wrong(k)], knot)
        for k in [len(wrong_knots), len(wrong_knots) + 1, GREATEST]:
            self.check_last(calls + [wrong(k)], [-4])
        self.check_last(calls + [WOOL], wool)


class Tied(ToldCase):
    def test_one_row(self):
        self.check_last([begin("abc/", 1, 2), row(1, "abc"), TIED], [4, 97, 98, 99, 10])

    def test_the_rows_done_alone(self):
        calls = [begin("ab/cd/ef/", 2)]
        for text, count in [("ab/", 1), ("ab/cd/", 2), ("ab/cd/ef/", 3)]:
            rows = [row(1, tied) for tied in text.split("/")[:count]]
            self.check_last(calls + rows + [TIED], text_answer(text))

    def test_as_it_was_tied_last(self):
        calls = [begin("abcd/", 2, 2), row(3, "xxabyyzzcx")]
        self.check_last(calls, [1, 5])
        self.check_last(calls + [TIED], text_answer("abcx/"))

    def test_every_colour(self):
        chart = COLOURS + "/"
        self.check_last([begin(chart, 62), row(1, COLOURS), TIED], text_answer(chart))

    def test_no_row_done(self):
        self.check((begin("a/", 1), [0]), (TIED, [-5]), (NOW, [0, 1, 1, 1, 0, 0, 0]))

    def test_wide_and_high(self):
        chart = ("a" * 128 + "b" * 128 + "c" * 128 + "d" * 128 + "/") * 28
        rows = [row(1, chart[:512])] * 28
        self.check_last([begin(chart, *[128] * 4)] + rows + [TIED], text_answer(chart))
        chart = "a/" * 295
        self.check_last([begin(chart, 1)] + [row(1, "a")] * 295 + [TIED], text_answer(chart))


class Wrong(ToldCase):
    def test_none(self):
        for k in [0, 1, GREATEST]:
            self.check_last([begin("ab/", 2), row(1, "ab"), wrong(k)], [-4])
            self.check_last([begin("ab/", 2), wrong(k)], [-4])

    def test_row_by_row_from_the_top_and_from_the_left(self):
        calls = [begin("aaa/aaa/aaa/", 1, 2), row(1, "bac"), row(1, "aaa"), row(1, "dBa")]
        for k, answer in enumerate([[0, 0, 0, 1], [0, 2, 0, 2], [0, 0, 2, 3], [0, 1, 2, 27]]):
            self.check_last(calls + [wrong(k)], answer)
        for k in [4, 5, 9, GREATEST]:
            self.check_last(calls + [wrong(k)], [-4])

    def test_the_number_is_of_the_colour_that_is_tied(self):
        for number, colour in enumerate(COLOURS):
            chart = "b" if colour == "a" else "a"
            self.check_last([begin(chart + "/", 1), row(1, colour), wrong(0)], [0, 0, 0, number])

    def test_another_case_is_another_colour(self):
        self.check_last([begin("aB/", 2), row(1, "Ab"), wrong(0)], [0, 0, 0, 26])
        self.check_last([begin("aB/", 2), row(1, "Ab"), wrong(1)], [0, 1, 0, 1])

    def test_every_knot(self):
        calls = [begin(("a" * 20 + "/") * 14, 20)] + [row(1, "b" * 20)] * 14
        for k in range(280):
            self.check_last(calls + [wrong(k)], [0, k % 20, k // 20, 1])
        self.check_last(calls + [wrong(280)], [-4])


class Wool(ToldCase):
    def test_62_numbers_in_the_colours_order(self):
        tied = "".join(colour * (number % 3) for number, colour in enumerate(COLOURS))
        answer = [0] + [number % 3 for number in range(62)]
        self.check_last([begin("a" * len(tied) + "/", len(tied)), row(1, tied), WOOL], answer)

    def test_each_colour_alone(self):
        for number, colour in enumerate(COLOURS):
            answer = [0] * 63
            answer[1 + number] = 1
            self.check_last([begin("a/", 1), row(1, colour), WOOL], answer)

    def test_no_row_done(self):
        self.check((begin("ab/", 2), [0]), (WOOL, [0] * 63), (NOW, [0, 2, 1, 1, 0, 0, 0]))

    def test_what_is_tied_counts_not_the_chart(self):
        self.check_last([begin("aab/", 3), row(1, "bcc"), WOOL], wool_answer(b=1, c=2))

    def test_tyings_that_were_tied_again_do_not_count(self):
        self.check_last([begin("ab/", 1, 1), row(2, "xayb"), WOOL], wool_answer(a=1, b=1))

    def test_bytes_left_over_do_not_count(self):
        self.check_last([begin("ab/", 1, 1), row(2, "abab"), WOOL], wool_answer(a=1, b=1))


class Behind(ToldCase):
    """What all three tell behind the calls that change the loom."""

    def test_rows_tied_wrongly(self):
        self.check_told(DONE, DONE_TEXT, DONE_WRONG, DONE_WOOL)

    def test_nothing_done(self):
        self.check_told(DONE[:1], "", [], NO_WOOL)

    def test_unpicked_rows_are_told_no_more(self):
        self.check_told(DONE + [unpick(0)], DONE_TEXT, DONE_WRONG, DONE_WOOL)
        self.check_told(DONE + [unpick(1)], "ax/cd/", DONE_WRONG[:1], wool_answer(a=1, x=1, c=1, d=1))
        self.check_told(DONE + [unpick(2)], "ax/", DONE_WRONG[:1], wool_answer(a=1, x=1))
        self.check_told(DONE + [unpick(3)], "", [], NO_WOOL)

    def test_unpicked_and_tied_anew(self):
        calls = DONE + [unpick(2), row(1, "dc")]
        self.check_told(calls, "ax/dc/", [[0, 1, 0, 23], [0, 0, 1, 3], [0, 1, 1, 2]], wool_answer(a=1, x=1, c=1, d=1))
        calls = DONE + [unpick(3), row(1, "ab"), row(1, "cd"), row(1, "ef"), row(1, "gh")]
        self.check_told(calls, "ab/cd/ef/gh/", [], wool_answer(a=1, b=1, c=1, d=1, e=1, f=1, g=1, h=1))

    def test_a_row_that_is_left(self):
        for tied in ["", "z", "z!", "!z", "zz"]:
            with self.subTest(tied):
                calls = DONE + [row(3, tied)]
                self.check_last(calls, [-12])
                self.check_told(calls, DONE_TEXT, DONE_WRONG, DONE_WOOL)
        self.check_told(DONE[:1] + [row(1, "z")], "", [], NO_WOOL)

    def test_refused_calls(self):
        refused = [(begin("xy", 2), [-6]), (begin("xy/", 1), [-1]), (begin("xy/"), [-1]),
                   (begin("xy/", *[1] * 9), [-2]), (row(0, "gh"), [-1]), (row(10, "gh"), [-1]),
                   (unpick(4), [-4]), (wrong(3), [-4]), (said(2), [-4])]
        for call, answer in refused:
            with self.subTest(call):
                self.check_last(DONE + [call], answer)
                self.check_told(DONE + [call], DONE_TEXT, DONE_WRONG, DONE_WOOL)

    def test_no_row_left(self):
        calls = DONE + [row(1, "gh"), row(1, "gh")]
        self.check_last(calls, [-5])
        self.check_told(calls, DONE_TEXT + "gh/", DONE_WRONG, [a + b for a, b in zip(DONE_WOOL, wool_answer(g=1, h=1))])

    def test_begun_anew(self):
        calls = DONE + [begin("xyz/zzz/", 3)]
        self.check_told(calls, "", [], NO_WOOL)
        self.check_told(calls + [row(1, "xyx")], "xyx/", [[0, 2, 0, 23]], wool_answer(x=2, y=1))
        self.check_told(DONE + DONE[:1], "", [], NO_WOOL)

    def test_they_change_nothing(self):
        before = ask(*DONE, NOW)[-1]
        asked = [TIED, wrong(0), wrong(2), wrong(3), WOOL, TIED]
        self.check_last(DONE + asked + [NOW], before)
        self.check_told(DONE + asked, DONE_TEXT, DONE_WRONG, DONE_WOOL)
        self.check_last(DONE + asked + [row(1, "gh")], [0, 2])
        self.check_last(DONE[:1] + [TIED, wrong(0), WOOL, NOW], [0, 2, 4, 2, 0, 0, 0])


class NotBegun(LoomCase):
    def test_none_is_told(self):
        self.check((TIED, [-13]), (wrong(0), [-13]), (WOOL, [-13]), (said(0), [-13]), (NOW, [-13]))

    def test_it_is_told_ahead_of_all_else(self):
        self.check((wrong(GREATEST), [-13]), (said(8), [-13]), (said(GREATEST), [-13]))

    def test_a_refused_begin_begins_nothing(self):
        self.check((begin("a", 1), [-6]), (TIED, [-13]), (wrong(0), [-13]), (WOOL, [-13]), (said(0), [-13]))

    def test_begun_behind_it(self):
        self.check((TIED, [-13]), (said(0), [-13]), (begin("a/", 1), [0]), (said(0), [1, 97]), (row(1, "a"), [0, 1]),
                   (TIED, [2, 97, 10]))


class AnyLooms(LoomCase):
    """Looms led by chance; a plain list of the rows done tells what must be told."""

    def test_any_looms(self):
        chance = random.Random(6)
        for turn in range(60):
            width, height = chance.randint(1, 6), chance.randint(1, 6)
            chart = ["".join(chance.choice("aB2") for x in range(width)) for y in range(height)]
            calls = [begin("/".join(chart) + "/", width)]
            done = []
            for step in range(12):
                tied = "".join(chance.choice("aB2") for x in range(width))
                if chance.random() < 0.7:
                    calls.append(row(1, tied))
                    done += [tied] if len(done) < height else []
                else:
                    k = chance.randint(0, len(done))
                    calls.append(unpick(k))
                    done = done[:len(done) - k]
            self.check_done(calls, chart, done)

    def check_done(self, calls, chart, done):
        wrong_knots = [[0, x, y, COLOURS.index(tied)] for y, knots in enumerate(done)
                       for x, tied in enumerate(knots) if tied != chart[y][x]]
        told = [wrong(k) for k in range(len(wrong_knots) + 1)] + [TIED, WOOL]
        text = "".join(knots + "/" for knots in done)
        wool = [0] + ["".join(done).count(colour) for colour in COLOURS]
        answers = wrong_knots + [[-4], text_answer(text) if done else [-5], wool]
        self.assertEqual(ask(*calls, *told)[len(calls):], answers)

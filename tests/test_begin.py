"""The call begin: charts, shares, refusals and their order."""

from knotloom.chart import read_chart
from knotloom.loom import Loom
from tests.helper import COLOURS, GREATEST, NOW, LoomCase, as_bytes, begin, row, unpick


def text_of(width, height):
    return as_bytes(("a" * width + "/") * height)


class Charts(LoomCase):
    def begun(self, text, shares, width, height):
        self.check((begin(text, *shares), [0]), (NOW, [0, width, height, len(shares), 0, 0, 0]))

    def no_chart(self, text, *shares):
        self.check((begin(text, *shares), [-6]), (NOW, [-13]))

    def test_the_smallest(self):
        self.begun("a/", [1], 1, 1)

    def test_512_wide(self):
        self.begun(text_of(512, 1), [128] * 4, 512, 1)

    def test_513_wide(self):
        self.no_chart(text_of(513, 1), 128, 128, 128, 128, 1)

    def test_512_high(self):
        self.begun(text_of(1, 512), [1], 1, 512)

    def test_513_high(self):
        self.no_chart(text_of(1, 513), 1)

    def test_as_large_as_the_list_of_calls_lets_it_be(self):
        self.begun(text_of(512, 58), [128] * 4, 512, 58)

    def test_rows_of_unequal_length(self):
        for text in ["ab/a/", "a/ab/", "ab/ab/abc/", "ab/ab/a/", "ab//ab/", "/ab/", "ab//"]:
            with self.subTest(text):
                self.no_chart(text, 2)

    def test_unequal_rows_that_have_as_many_knots_as_equal_ones(self):
        self.no_chart("abc/a/ab/", 2)

    def test_a_missing_last_row_end(self):
        for text in ["a", "ab", "ab/ab", "ab/a"]:
            with self.subTest(text):
                self.no_chart(text, 2)

    def test_no_knots(self):
        for text in ["", "/", "//", "/" * 600]:
            with self.subTest(text):
                self.no_chart(text, 1)

    def test_every_byte(self):
        for byte in range(256):
            with self.subTest(byte):
                self.check_last([begin([byte, 10], 1)], [0] if chr(byte) in COLOURS else [-6])

    def test_a_byte_that_is_no_colour_anywhere(self):
        for place in range(9):
            text = as_bytes("abc/def/ghi/")
            knot = place + place // 3
            text[knot] = 32
            with self.subTest(place):
                self.no_chart(text, 3)

    def test_other_row_ends(self):
        self.no_chart([97, 13, 10], 1)
        self.no_chart([97, 0], 1)


class LargeTexts(LoomCase):
    """Texts longer than a list of calls can be: asked of the loom itself."""

    def check_size(self, width, height, shares, answer):
        self.assertEqual(Loom().begin(text_of(width, height), shares), answer)

    def test_as_many_knots_as_may_be(self):
        self.check_size(512, 128, [128] * 4, [0])
        self.check_size(128, 512, [128], [0])

    def test_too_many_knots_in_a_text_that_is_short_enough(self):
        self.assertEqual(len(text_of(511, 129)), 66048)
        self.check_size(511, 129, [128, 128, 128, 127], [-6])
        self.assertIsNone(read_chart(text_of(511, 129)))

    def test_a_text_too_long(self):
        self.check_size(512, 129, [128] * 4, [-2])
        self.assertEqual(Loom().begin([97] * 66048, [1]), [-6])
        self.assertEqual(Loom().begin([97] * 66049, [1]), [-2])

    def test_too_long_is_told_ahead_of_what_else_there_is(self):
        for shares in [[], [0], [129], [1] * 9]:
            with self.subTest(shares):
                self.assertEqual(Loom().begin([32] * 66049, shares), [-2])


class Shares(LoomCase):
    def test_1_and_8(self):
        self.check((begin("abcdefgh/", 8), [0]), (NOW, [0, 8, 1, 1, 0, 0, 0]))
        self.check((begin("abcdefgh/", *[1] * 8), [0]), (NOW, [0, 8, 1, 8, 0, 0, 0]))

    def test_none(self):
        self.check((begin("a/"), [-1]), (NOW, [-13]))

    def test_9_and_more(self):
        for many in [9, 10, 11, 12]:
            with self.subTest(many):
                self.check((begin("a" * many + "/", *[1] * many), [-2]), (NOW, [-13]))

    def test_a_share_of_0(self):
        for shares in [[0], [0, 3], [3, 0], [1, 0, 2]]:
            with self.subTest(shares):
                self.check((begin("abc/", *shares), [-1]), (NOW, [-13]))

    def test_a_share_of_1(self):
        self.check_last([begin("abc/", 1, 2)], [0])

    def test_a_share_of_128(self):
        self.check_last([begin(text_of(128, 1), 128)], [0])
        self.check_last([begin(text_of(129, 1), 1, 128)], [0])

    def test_a_share_of_129(self):
        self.check_last([begin(text_of(129, 1), 129)], [-1])
        self.check_last([begin(text_of(130, 1), 1, 129)], [-1])

    def test_not_the_width_together(self):
        for shares in [[1], [2], [4], [1, 1], [2, 2], [1, 1, 2], [128] * 8]:
            with self.subTest(shares):
                self.check_last([begin("abc/abc/", *shares)], [-1])

    def test_as_great_as_a_number_can_be(self):
        self.check_last([begin("abc/", GREATEST)], [-1])
        # Together they are 3, were numbers counted modulo 4294967296.
        self.check_last([begin("abc/", GREATEST, 4)], [-1])


class Order(LoomCase):
    """For each pair of refusals that can meet in begin: which is told."""

    def check_begin(self, text, shares, answer):
        self.check_last([begin(text, *shares)], answer)

    def test_too_many_shares_and_no_chart(self):
        self.check_begin("ab", [1] * 9, [-2])

    def test_too_many_shares_and_a_wrong_share(self):
        self.check_begin("abcdefgh/", [1] * 8 + [0], [-2])
        self.check_begin(text_of(137, 1), [1] * 8 + [129], [-2])

    def test_too_many_shares_and_not_the_width_together(self):
        self.check_begin("ab/", [1] * 9, [-2])

    def test_no_share_and_no_chart(self):
        self.check_begin("ab", [], [-1])
        self.check_begin("", [], [-1])

    def test_no_share_and_not_the_width_together(self):
        self.check_begin("ab/", [], [-1])

    def test_no_chart_and_a_wrong_share(self):
        self.check_begin("ab", [0, 2], [-6])
        self.check_begin("", [0], [-6])
        self.check_begin("a!/", [GREATEST], [-6])

    def test_no_chart_and_not_the_width_together(self):
        self.check_begin("ab/a/", [3], [-6])


class Anew(LoomCase):
    BEFORE = [begin("ab/cd/ef/", 1, 1), row(2, "xxby"), row(1, "c")]

    def test_the_loom_as_it_was(self):
        self.check_last(self.BEFORE + [row(1, "c!")], [-12])
        self.check_last(self.BEFORE + [NOW], [0, 2, 3, 2, 1, 1, 5])

    def test_begun_anew(self):
        calls = self.BEFORE + [begin("xyz/", 3)]
        self.check_last(calls, [0])
        self.check_last(calls + [NOW], [0, 3, 1, 1, 0, 0, 0])
        self.check_last(calls + [row(1, "xyz")], [0, 1])
        self.check_last(calls + [unpick(1)], [-4])

    def test_begun_anew_with_the_same(self):
        calls = self.BEFORE + [self.BEFORE[0]]
        self.check_last(calls + [NOW], [0, 2, 3, 2, 0, 0, 0])
        self.check_last(calls + [row(1, "ab")], [0, 2])

    def test_refused_it_stays_as_it_was(self):
        refused = [
            (begin("xyz/", *[1] * 9), [-2]),
            (begin("xyz/"), [-1]),
            (begin("xyz", 3), [-6]),
            (begin("xyz/", 3, 0), [-1]),
            (begin("xyz/", 129), [-1]),
            (begin("xyz/", 2), [-1]),
        ]
        for call, answer in refused:
            with self.subTest(call):
                calls = self.BEFORE + [call]
                self.check_last(calls, answer)
                self.check_last(calls + [NOW], [0, 2, 3, 2, 1, 1, 5])
                self.check_last(calls + [row(1, "cd")], [0, 2])
                self.check_last(calls + [unpick(1), row(1, "ab")], [0, 2])

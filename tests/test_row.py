"""The call row: who is asked, how often, what is kept, when the row is left."""

import itertools

from tests.helper import GREATEST, NOW, LoomCase, ask, begin, row, unpick

NO_COLOURS = [0, 10, 32, 47, 58, 64, 91, 96, 123, 128, 255]


class WaysToGetItWrong(LoomCase):
    def test_only_the_knotter_who_is_wrong_is_asked_again(self):
        # a; then x, wrong, and b again: asked again by the whole row it would go on with a x, a b.
        self.check_last([begin("abc/", 1, 1, 1), row(2, "axbc")], [0, 4])

    def test_a_part_is_tied_again_whole(self):
        self.check_last([begin("abc/", 3), row(2, "abxxbc")], [1, 2])

    def test_the_last_tying_is_kept_not_the_first(self):
        calls = [begin("abcd/", 2, 2), row(2, "xxabcdxx")]
        self.check_last(calls, [0, 3])
        calls = [begin("ab/", 2), row(3, "axxbxx")]
        self.check_last(calls, [2, 3])
        self.check_last(calls + [NOW], [0, 2, 1, 1, 1, 2, 3])

    def test_the_last_tying_is_kept_not_the_best(self):
        self.check_last([begin("abc/", 3), row(3, "abxxbxaxx")], [2, 3])

    def test_each_knotter_has_all_the_tries(self):
        self.check_last([begin("abc/", 1, 1, 1), row(3, "xxaxxbxxc")], [0, 9])

    def test_tries_are_counted_anew_in_each_row(self):
        self.check(
            (begin("a/a/", 1), [0]),
            (row(2, "xa"), [0, 2]),
            (row(2, "xa"), [0, 2]),
        )

    def test_tries_are_counted_anew_when_a_row_was_left(self):
        self.check((begin("a/", 1), [0]), (row(2, "x"), [-12]), (row(2, "xa"), [0, 2]))

    def test_nothing_of_a_row_that_is_left_is_kept(self):
        calls = [begin("abc/def/", 1, 2), row(1, "x"), row(1, "xb"), row(1, "xb!")]
        self.check_last(calls + [NOW], [0, 3, 2, 2, 0, 0, 6])
        self.check_last(calls + [row(1, "abc")], [0, 2])
        self.check_last(calls + [row(1, "abc"), NOW], [0, 3, 2, 2, 1, 0, 8])

    def test_wrong_knots_of_unpicked_rows_are_not_told(self):
        calls = [begin("ab/cd/", 2), row(1, "xx"), row(1, "cx")]
        self.check_last(calls + [NOW], [0, 2, 2, 1, 2, 3, 2])
        self.check_last(calls + [unpick(1), NOW], [0, 2, 2, 1, 1, 2, 2])
        self.check_last(calls + [unpick(2), NOW], [0, 2, 2, 1, 0, 0, 2])
        self.check_last(calls + [unpick(2), row(1, "ab"), NOW], [0, 2, 2, 1, 1, 0, 3])

    def test_a_byte_that_is_no_colour_is_not_kept(self):
        for byte in NO_COLOURS:
            with self.subTest(byte):
                calls = [begin("ab/", 2), row(1, [97, byte])]
                self.check_last(calls, [-12])
                self.check_last(calls + [NOW], [0, 2, 1, 1, 0, 0, 1])

    def test_shares_are_from_the_left(self):
        # The first has a alone: their x is wrong, their a is right.
        self.check_last([begin("abc/", 1, 2), row(2, "xabc")], [0, 3])
        self.check_last([begin("abc/", 2, 1), row(2, "xbabc")], [0, 3])

    def test_each_tying_begins_where_the_last_one_ended(self):
        self.check_last([begin("abcdef/", 1, 2, 3), row(1, "abcdef")], [0, 3])
        self.check_last([begin("abcdef/", 3, 2, 1), row(1, "abcdef")], [0, 3])
        self.check_last([begin("aabb/", 2, 2), row(1, "aaxx")], [2, 2])
        self.check_last([begin("aabb/", 2, 2), row(2, "axaaxbbb")], [0, 4])


class Tries(LoomCase):
    def test_1(self):
        self.check((begin("a/a/", 1), [0]), (row(1, "xa"), [1, 1]), (row(1, "a"), [0, 1]))

    def test_asked_up_to_tries_times_and_not_oftener(self):
        for tries in range(1, 10):
            with self.subTest(tries):
                start = begin("ab/", 1, 1)
                self.check_last([start, row(tries, "x" * tries + "b")], [1, tries + 1])
                self.check_last([start, row(tries, "x" * (tries - 1) + "ab")], [0, tries + 1])
                self.check_last([start, row(tries, "a" + "x" * tries + "bbb")], [1, tries + 1])
                # One more would have been right, but is asked for no more.
                self.check_last([begin("a/", 1), row(tries, "x" * tries + "a")], [1, tries])

    def test_asked_no_more_once_it_is_right(self):
        self.check_last([begin("a/", 1), row(9, "axxxxxxxx")], [0, 1])
        self.check_last([begin("a/", 1), row(9, "xxaxxxxxx")], [0, 3])

    def test_0_10_and_greater(self):
        for tries in [0, 10, 11, 256, GREATEST]:
            with self.subTest(tries):
                calls = [begin("a/", 1), row(tries, "a")]
                self.check_last(calls, [-1])
                self.check_last(calls + [NOW], [0, 1, 1, 1, 0, 0, 0])


class Tied(LoomCase):
    def test_too_few_bytes(self):
        for tied, asked in [("", 1), ("a", 1), ("ab", 2), ("abc", 2), ("abcd", 3), ("abcde", 3)]:
            with self.subTest(tied):
                calls = [begin("abcdef/", 2, 2, 2), row(1, tied)]
                self.check_last(calls, [-12])
                self.check_last(calls + [NOW], [0, 6, 1, 3, 0, 0, asked])

    def test_too_few_bytes_when_asked_again(self):
        for tied, asked in [("xx", 2), ("xxa", 2), ("xxabxx", 4), ("xxxxcdy", 4)]:
            with self.subTest(tied):
                calls = [begin("abcd/", 2, 2), row(3, tied)]
                self.check_last(calls, [-12])
        self.check_last([begin("abcd/", 2, 2), row(2, "xxab"), NOW], [0, 4, 1, 2, 0, 0, 3])
        self.check_last([begin("abcd/", 2, 2), row(3, "xx"), NOW], [0, 4, 1, 2, 0, 0, 2])
        self.check_last([begin("abcd/", 2, 2), row(2, "xxabxxc"), NOW], [0, 4, 1, 2, 0, 0, 4])

    def test_just_enough_bytes(self):
        self.check_last([begin("abcdef/", 2, 2, 2), row(1, "abcdef")], [0, 3])
        self.check_last([begin("abcdef/", 2, 2, 2), row(2, "xxxxcdxxef")], [2, 5])

    def test_bytes_left_over_count_for_nothing(self):
        left_over = [120, 33, 0, 255]
        calls = [begin("ab/cd/", 1, 1), row(3, [97, 98] + left_over)]
        self.check_last(calls, [0, 2])
        self.check_last(calls + [NOW], [0, 2, 2, 2, 1, 0, 2])
        self.check_last(calls + [row(1, "cd")], [0, 2])

    def test_a_byte_that_is_no_colour_of_the_first_knotter(self):
        for tied in ["!bcd", "a!cd", "!!cd", "/bcd"]:
            with self.subTest(tied):
                calls = [begin("abcd/", 2, 2), row(3, tied + "abcdabcd")]
                self.check_last(calls, [-12])
                self.check_last(calls + [NOW], [0, 4, 1, 2, 0, 0, 1])

    def test_a_byte_that_is_no_colour_of_a_later_knotter(self):
        for tied in ["ab!d", "abc!", "xxab!d", "xxabc!"]:
            with self.subTest(tied):
                calls = [begin("abcd/", 2, 2), row(3, tied + "abcdabcd")]
                self.check_last(calls, [-12])
                self.check_last(calls + [NOW], [0, 4, 1, 2, 0, 0, len(tied) // 2])

    def test_a_byte_that_is_no_colour_when_asked_again(self):
        calls = [begin("abcd/", 2, 2), row(3, "xxa!abcd")]
        self.check_last(calls, [-12])
        self.check_last(calls + [NOW], [0, 4, 1, 2, 0, 0, 2])

    def test_a_byte_that_is_no_colour_in_the_last_try(self):
        self.check_last([begin("ab/", 2), row(2, "xxa!")], [-12])

    def test_every_colour_may_be_tied(self):
        for byte in range(256):
            colour = 48 <= byte <= 57 or 65 <= byte <= 90 or 97 <= byte <= 122
            with self.subTest(byte):
                wrong = [0, 1] if byte == 97 else [1, 1]
                self.check_last([begin("a/", 1), row(1, [byte])], wrong if colour else [-12])

    def test_a_wide_row(self):
        chart = ("a" * 128 + "b" * 128 + "c" * 128 + "d" * 128) + "/"
        self.check_last([begin(chart, *[128] * 4), row(1, chart[:-1])], [0, 4])
        self.check_last([begin(chart, *[128] * 4), row(1, "z" * 512)], [512, 4])
        self.check_last([begin(chart, *[128] * 4), row(1, "z" * 511)], [-12])


class WrongKnots(LoomCase):
    def test_colours_of_another_case_are_wrong(self):
        self.check_last([begin("aA0/", 3), row(1, "Aa0")], [2, 1])

    def test_right_colours_in_wrong_places_are_wrong(self):
        self.check_last([begin("abc/", 3), row(1, "cab")], [3, 1])

    def test_each_row_is_held_against_its_own_of_the_chart(self):
        self.check(
            (begin("ab/cd/ef/", 2), [0]),
            (row(1, "ab"), [0, 1]),
            (row(1, "ab"), [2, 1]),
            (row(1, "xf"), [1, 1]),
            (NOW, [0, 2, 3, 1, 3, 3, 3]),
        )


class Refused(LoomCase):
    def test_no_row_left(self):
        calls = [begin("a/b/", 1), row(1, "a"), row(1, "x")]
        self.check_last(calls + [row(1, "b")], [-5])
        self.check_last(calls + [row(1, "b"), NOW], [0, 1, 2, 1, 2, 1, 2])
        self.check_last(calls + [row(1, "b"), unpick(1), row(1, "b")], [0, 1])

    def test_not_begun(self):
        self.check((row(1, "a"), [-13]), (NOW, [-13]), (begin("a/", 1), [0]), (NOW, [0, 1, 1, 1, 0, 0, 0]))

    def test_wrong_tries_and_not_begun(self):
        for tries in [0, 10, GREATEST]:
            self.check((row(tries, "a"), [-1]), (NOW, [-13]))

    def test_wrong_tries_and_no_row_left(self):
        calls = [begin("a/", 1), row(1, "a")]
        self.check_last(calls + [row(0, "a")], [-1])
        self.check_last(calls + [row(10, "a")], [-1])
        self.check_last(calls + [row(10, "a"), NOW], [0, 1, 1, 1, 1, 0, 1])

    def test_wrong_tries_and_the_row_is_left(self):
        for tied in ["", "!"]:
            calls = [begin("a/", 1), row(0, tied), row(10, tied)]
            self.check_last(calls, [-1])
            self.check_last(calls + [NOW], [0, 1, 1, 1, 0, 0, 0])

    def test_not_begun_and_the_row_is_left(self):
        self.check((row(1, ""), [-13]), (row(9, "!"), [-13]))

    def test_no_row_left_and_the_row_is_left(self):
        calls = [begin("a/", 1), row(1, "a")]
        for tied in ["", "!"]:
            self.check_last(calls + [row(1, tied)], [-5])
            self.check_last(calls + [row(1, tied), NOW], [0, 1, 1, 1, 1, 0, 1])

    def test_a_refused_row_leaves_the_loom_as_it_was(self):
        before = [begin("ab/cd/", 1, 1), row(1, "ax")]
        for tries in [0, 10, GREATEST]:
            calls = before + [row(tries, "cd")]
            self.check_last(calls + [NOW], [0, 2, 2, 2, 1, 1, 2])
            self.check_last(calls + [row(1, "cd")], [0, 2])

    def test_of_a_row_that_is_left_only_how_often_was_asked_is_kept(self):
        before = [begin("ab/cd/", 1, 1), row(1, "ax")]
        for tied, asked in [("", 1), ("!d", 1), ("c", 2), ("c!", 2), ("xc", 3), ("xc!", 3), ("xxx!", 4)]:
            with self.subTest(tied):
                calls = before + [row(3, tied)]
                self.check_last(calls, [-12])
                self.check_last(calls + [NOW], [0, 2, 2, 2, 1, 1, 2 + asked])
                self.check_last(calls + [row(1, "cd"), NOW], [0, 2, 2, 2, 2, 1, 4 + asked])
                self.check_last(calls + [unpick(1), row(1, "ab")], [0, 2])


def tie_by_hand(chart, shares, tries, tied):
    """The answer to row, and how often was asked, told another way than by the program: part by part, from a string."""
    asked = wrong = 0
    for share in shares:
        part, chart = chart[:share], chart[share:]
        tyings = [tied[k * share:(k + 1) * share] for k in range(tries)]
        right = tyings.index(part) if part in tyings else tries - 1
        for tying in tyings[:right + 1]:
            asked += 1
            if len(tying) < share or not tying.isalnum():
                return [-12], asked
        wrong += sum(knot != colour for knot, colour in zip(tying, part))
        tied = tied[(right + 1) * share:]
    return [wrong, asked], asked


class AllSmallTyings(LoomCase):
    def check_all(self, chart, shares, longest):
        for length in range(longest + 1):
            for signs in itertools.product("ab!", repeat=length):
                for tries in [1, 2, 3]:
                    tied = "".join(signs)
                    answer, asked = tie_by_hand(chart, shares, tries, tied)
                    done = 0 if answer == [-12] else 1
                    wrong = answer[0] if done else 0
                    given = ask(begin(chart + "/", *shares), row(tries, tied), NOW)
                    self.assertEqual(given[1], answer, (chart, shares, tries, tied))
                    self.assertEqual(given[2], [0, len(chart), 1, len(shares), done, wrong, asked])

    def test_two_knotters(self):
        self.check_all("ab", [1, 1], 7)

    def test_parts_of_two_knots(self):
        self.check_all("abb", [1, 2], 7)
        self.check_all("aab", [2, 1], 7)

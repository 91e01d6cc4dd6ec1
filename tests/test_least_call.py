"""The least call of a row, held against every call that is heard as it; long rows against a plain search."""

import functools
import itertools
import random
import unittest

from knotloom.calling import least_call
from tests.helper import COLOURS, heard, words


def rank(call):
    return words(call), len(call), call


@functools.cache
def all_items(row):
    """Every item that is heard as the row."""
    if len(row) == 1:
        return [row]
    found = [f"{len(row)}*{row[0]}"] if row == row[0] * len(row) else []
    for size in range(2, len(row) // 2 + 1):
        count = len(row) // size
        if row == row[:size] * count:
            found += [f"{count}*({' '.join(call)})" for call in all_calls(row[:size]) if len(call) > 1]
    return found


@functools.cache
def all_calls(row):
    """Every call that is heard as the row, each as a tuple of its items."""
    found = [(item,) for item in all_items(row)]
    for cut in range(1, len(row)):
        found += [(item,) + rest for item in all_items(row[:cut]) for rest in all_calls(row[cut:])]
    return found


def least_of_all(row):
    return min((" ".join(call) for call in all_calls(row)), key=rank)


def least_by_pieces(row):
    """The least call from the least ones of all its pieces, shorter ones first; nothing is left out."""
    alone = {}
    several = {}
    for size in range(1, len(row) + 1):
        for start in range(len(row) - size + 1):
            piece = row[start:start + size]
            if piece not in alone:
                alone[piece] = least_item(piece, several)
                several[piece] = min((joined(alone[piece[:cut]], lesser(alone, several, piece[cut:]))
                                      for cut in range(1, size) if alone[piece[:cut]]), default=None)
    return lesser(alone, several, row)[2]


def least_item(piece, several):
    size = len(piece)
    if size == 1:
        return 1, 1, piece
    texts = [(2, f"{size}*{piece[0]}")] if piece == piece[0] * size else []
    for part in range(2, size // 2 + 1):
        if piece == piece[:part] * (size // part):
            body = several[piece[:part]]
            texts.append((2 + body[0], f"{size // part}*({body[2]})"))
    return min(((count, len(text), text) for count, text in texts), default=None)


def lesser(alone, several, piece):
    return min(call for call in [alone[piece], several[piece]] if call)


def joined(item, rest):
    return item[0] + rest[0], item[1] + 1 + rest[1], item[2] + " " + rest[2]


class Told(unittest.TestCase):
    """Calls worked out by hand."""

    def check(self, row, call):
        self.assertEqual(heard(call), row)
        self.assertEqual(least_call(row), call)

    def test_one_knot(self):
        for colour in COLOURS:
            self.check(colour, colour)

    def test_two_knots_of_one_colour(self):
        # "a a" and "2*a" have 2 words and 3 bytes each: the first text counts, and 2 lies ahead of most colours.
        for colour in COLOURS:
            self.check(colour * 2, f"{colour} {colour}" if colour in "012" else f"2*{colour}")

    def test_more_knots_of_one_colour(self):
        for size in range(3, 129):
            for colour in "aZ0129":
                self.check(colour * size, f"{size}*{colour}")

    def test_no_repeats(self):
        self.check("ab", "a b")
        self.check("aba", "a b a")
        self.check("abcabd", "a b c a b d")
        self.check(COLOURS, " ".join(COLOURS))

    def test_a_group_where_it_has_fewer_words(self):
        self.check("ababab", "3*(a b)")
        self.check("abcabc", "2*(a b c)")
        self.check("aabaab", "2*(2*a b)")

    def test_a_group_with_as_many_words_and_as_long_a_text(self):
        # "a b a b" and "2*(a b)": 4 words, 7 bytes.
        self.check("abab", "2*(a b)")
        self.check("3a3a", "2*(3 a)")
        self.check("2a2a", "2 a 2 a")
        self.check("1a1a", "1 a 1 a")
        self.check("0a0a", "0 a 0 a")

    def test_as_many_words_but_a_shorter_text(self):
        # "10*a b 9*a b" has 6 words too and is the first byte by byte, but is longer by one.
        self.check("a" * 10 + "b" + "a" * 9 + "b", "a 2*(9*a b)")
        self.check("c" + "a" * 10 + "b" + "a" * 9 + "b", "c a 2*(9*a b)")

    def test_as_many_words_and_as_long_a_text(self):
        # "a 2*(a b) b" has 6 words and 11 bytes as well.
        self.check("aababb", "2*a b a 2*b")

    def test_groups_within_groups(self):
        self.check("ababcababc", "2*(2*(a b) c)")
        self.check("aaabaaabcaaabaaabc", "2*(2*(3*a b) c)")
        self.check(("ab" * 3 + "c") * 4 + "d", "4*(3*(a b) c) d")
        self.check((("aab" * 3 + "c") * 3 + "d") * 2, "2*(3*(3*(2*a b) c) d)")

    def test_rows_that_end_in_the_midst_of_a_repeat(self):
        self.check("ababa", "2*(a b) a")
        self.check("abcabcab", "2*(a b c) a b")
        self.check("012012012", "3*(0 1 2)")
        # "3*(0 1 2) 0 1" is as long, and 0 lies ahead of 3.
        self.check("01201201201", "0 1 3*(2 0 1)")

    def test_a_repeat_cut_off_at_its_beginning(self):
        self.check("babab", "2*(b a) b")
        self.check("bcabcabc", "2*(b c a) b c")
        self.check("cabababab", "c 4*(a b)")

    def test_as_wide_as_a_share_may_be(self):
        self.check("a" * 128, "128*a")
        self.check("ab" * 64, "64*(a b)")
        self.check("a" * 64 + "b" * 64, "64*a 64*b")
        self.check(("a" * 31 + "b") * 4, "4*(31*a b)")
        self.check((COLOURS + "ab") * 2, "2*(" + " ".join(COLOURS + "ab") + ")")
        self.check("abc" * 42 + "ab", "42*(a b c) a b")

    def test_128_knots_without_any_repeat(self):
        # The colours' order is turned by another step in the second half: no piece stands twice behind itself.
        row = COLOURS + "".join(COLOURS[(7 * k) % 62] for k in range(62)) + "aceg"
        self.assertEqual(len(row), 128)
        self.check(row, " ".join(row))


class TheSearch(unittest.TestCase):
    """What the tests hold the program against is itself held against the grammar."""

    def test_it_finds_every_call_of_few_signs(self):
        found = {}
        for size in range(1, 8):
            for signs in itertools.product("a2*( )", repeat=size):
                call = "".join(signs)
                try:
                    found.setdefault(heard(call), set()).add(call)
                except ValueError:
                    pass
        rows = [row for row in found if len(row) <= 7]
        self.assertIn("aaa2", rows)
        for row in rows:
            calls = {" ".join(call) for call in all_calls(row)}
            self.assertEqual({call for call in calls if len(call) < 8 and set(call) <= set("a2*( )")}, found[row], row)

    def test_it_finds_calls_that_are_heard_as_the_row(self):
        for row in ["aaaaaa", "ababab", "1212121", "aabaab"]:
            for call in all_calls(row):
                self.assertEqual(heard(" ".join(call)), row)

    def test_words(self):
        for call, count in [("a", 1), ("2*a", 2), ("a b", 2), ("2*(a b)", 4), ("2*(a 3*b)", 5), ("9*(2*(a b) c) d", 8)]:
            self.assertEqual(words(call), count)


class Searched(unittest.TestCase):
    def check_all(self, colours, longest):
        for size in range(1, longest + 1):
            for row in itertools.product(colours, repeat=size):
                row = "".join(row)
                self.assertEqual(least_call(row), least_of_all(row))

    def test_two_letters(self):
        self.check_all("ab", 11)

    def test_two_figures(self):
        for colours in ["01", "12", "23", "34", "19"]:
            self.check_all(colours, 9)

    def test_a_figure_and_a_letter(self):
        for colours in ["0a", "1a", "2a", "3Z", "4Z", "9z"]:
            self.check_all(colours, 9)

    def test_three_colours(self):
        for colours in ["abc", "123", "02a", "2aB"]:
            self.check_all(colours, 6)

    def test_four_colours(self):
        self.check_all("0123", 6)
        self.check_all("ab3Z", 5)

    def test_rows_of_many_repeats(self):
        chance = random.Random(5)
        for turn in range(150):
            row = grown(chance, chance.choice(["ab", "12", "2a", "0123"]), 12)
            self.assertEqual(least_call(row), least_of_all(row), row)


def grown(chance, colours, size):
    """A row of that size, grown by saying some of its pieces again behind themselves."""
    row = "".join(chance.choice(colours) for turn in range(chance.randint(1, 5)))
    while len(row) < size:
        start = chance.randrange(len(row))
        end = chance.randint(start + 1, len(row))
        row = row[:end] + row[start:end] * chance.randint(1, 3) + row[end:] + chance.choice([""] * 3 + list(colours))
    cut = chance.randint(0, len(row) - size)
    return row[cut:cut + size]


class Wide(unittest.TestCase):
    """Rows too wide for every call to be gone through."""

    def check(self, row):
        self.assertEqual(least_call(row), least_by_pieces(row), row)

    def test_the_plain_search_finds_what_the_full_search_finds(self):
        for colours in ["ab", "12", "2a"]:
            for size in range(1, 9):
                for row in itertools.product(colours, repeat=size):
                    row = "".join(row)
                    self.assertEqual(least_by_pieces(row), least_of_all(row))

    def test_any_rows(self):
        chance = random.Random(1)
        for turn in range(120):
            colours = chance.choice(["ab", "01", "123", "abcd", COLOURS])
            self.check("".join(chance.choice(colours) for knot in range(chance.randint(12, 40))))

    def test_rows_of_many_repeats(self):
        chance = random.Random(2)
        for turn in range(250):
            self.check(grown(chance, chance.choice(["ab", "01", "12", "2a", "abc", "0123"]), chance.randint(12, 48)))

    def test_128_knots(self):
        chance = random.Random(3)
        for colours in ["ab", "12", "0a", "0123"]:
            self.check(grown(chance, colours, 128))
            self.check("".join(chance.choice(colours) for knot in range(128)))

    def test_128_knots_of_one_repeat(self):
        chance = random.Random(4)
        for size in [2, 3, 7, 12, 42, 64]:
            piece = "".join(chance.choice("0b") for knot in range(size))
            self.check((piece * 64)[:128])

"""The calls unpick and now."""

from knotloom.loom import Loom
from tests.helper import GREATEST, NOW, LoomCase, begin, row, unpick

DONE = [begin("ab/cd/ef/", 1, 1), row(1, "ab"), row(1, "cx"), row(1, "xx")]


class Unpick(LoomCase):
    def test_none(self):
        self.check_last(DONE + [unpick(0)], [0])
        self.check_last(DONE + [unpick(0), NOW], [0, 2, 3, 2, 3, 3, 6])
        self.check((begin("a/", 1), [0]), (unpick(0), [0]), (NOW, [0, 1, 1, 1, 0, 0, 0]))

    def test_the_last(self):
        self.check_last(DONE + [unpick(1)], [0])
        self.check_last(DONE + [unpick(1), NOW], [0, 2, 3, 2, 2, 1, 6])
        self.check_last(DONE + [unpick(1), row(1, "ef")], [0, 2])

    def test_the_last_two(self):
        self.check_last(DONE + [unpick(2), NOW], [0, 2, 3, 2, 1, 0, 6])
        self.check_last(DONE + [unpick(2), row(1, "cd")], [0, 2])

    def test_one_by_one(self):
        self.check_last(DONE + [unpick(1), unpick(1), NOW], [0, 2, 3, 2, 1, 0, 6])
        self.check_last(DONE + [unpick(1), unpick(1), unpick(1), unpick(1)], [-4])

    def test_all(self):
        self.check_last(DONE + [unpick(3)], [0])
        self.check_last(DONE + [unpick(3), NOW], [0, 2, 3, 2, 0, 0, 6])
        self.check_last(DONE + [unpick(3), row(1, "ab"), NOW], [0, 2, 3, 2, 1, 0, 8])

    def test_more_than_are_done(self):
        for k in [4, 5, 512, GREATEST]:
            with self.subTest(k):
                self.check_last(DONE + [unpick(k)], [-4])
                self.check_last(DONE + [unpick(k), NOW], [0, 2, 3, 2, 3, 3, 6])
                self.check_last(DONE + [unpick(k), unpick(3), NOW], [0, 2, 3, 2, 0, 0, 6])

    def test_rows_of_the_chart_that_are_not_done_do_not_count(self):
        self.check((begin("a/b/", 1), [0]), (unpick(1), [-4]), (row(1, "a"), [0, 1]), (unpick(2), [-4]))

    def test_a_row_that_was_left_does_not_count(self):
        self.check((begin("a/", 1), [0]), (row(1, ""), [-12]), (unpick(1), [-4]), (NOW, [0, 1, 1, 1, 0, 0, 1]))

    def test_a_row_tied_anew_is_as_it_was_tied_last(self):
        self.check(
            (begin("ab/cd/", 2), [0]),
            (row(1, "xx"), [2, 1]),
            (unpick(1), [0]),
            (row(1, "ax"), [1, 1]),
            (NOW, [0, 2, 2, 1, 1, 1, 2]),
            (row(1, "cd"), [0, 1]),
            (NOW, [0, 2, 2, 1, 2, 1, 3]),
        )

    def test_not_begun(self):
        self.check((unpick(0), [-13]), (NOW, [-13]))

    def test_not_begun_and_fewer_rows_done(self):
        self.check((unpick(1), [-13]), (unpick(GREATEST), [-13]))

    def test_not_begun_when_begin_was_refused(self):
        self.check((begin("a", 1), [-6]), (unpick(0), [-13]), (row(1, "a"), [-13]), (NOW, [-13]))


class Now(LoomCase):
    def test_not_begun(self):
        self.check((NOW, [-13]), (NOW, [-13]))

    def test_it_changes_nothing(self):
        self.check_last(DONE + [NOW, NOW], [0, 2, 3, 2, 3, 3, 6])

    def test_width_and_height_are_told_apart(self):
        self.check_last([begin("abcde/abcde/", 1, 3, 1), NOW], [0, 5, 2, 3, 0, 0, 0])

    def test_how_often_was_asked_goes_on_over_rows_left_and_unpicked(self):
        self.check(
            (begin("ab/ab/", 1, 1), [0]),
            (row(9, "xxxxxxxxxb"), [1, 10]),
            (row(2, "x"), [-12]),
            (unpick(1), [0]),
            (NOW, [0, 2, 2, 2, 0, 0, 12]),
            (row(1, "ab"), [0, 2]),
            (NOW, [0, 2, 2, 2, 1, 0, 14]),
        )

    def test_how_often_was_asked_is_told_modulo_4294967296(self):
        # No list of calls asks so often: the loom itself is set there.
        loom = Loom()
        loom.begin([97, 10, 97, 10], [1])
        loom.asked = GREATEST
        self.assertEqual(loom.now()[-1], GREATEST)
        loom.row(1, [97])
        self.assertEqual(loom.now()[-1], 0)
        self.assertEqual(loom.row(2, [98, 97]), [0, 2])
        self.assertEqual(loom.now()[-1], 2)

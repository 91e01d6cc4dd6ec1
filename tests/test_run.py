"""The run that the document tells, and how calls and answers are written."""

import copy
import unittest

from knotloom.desk import UnknownCall, answers
from tests.helper import NOW, TIED, WOOL, LoomCase, ask, begin, row, said, text_answer, unpick, wool_answer, wrong

RUN = [
    (begin("aab/abb/", 1, 2), [0]),
    (said(1), text_answer("a b")),
    (row(2, "aaaaa"), [1, 3]),
    (NOW, [0, 3, 2, 2, 1, 1, 3]),
    (row(1, "a"), [-12]),
    (NOW, [0, 3, 2, 2, 1, 1, 5]),
    (row(1, "abb"), [0, 2]),
    (TIED, text_answer("aaa/abb/")),
    (WOOL, wool_answer(a=4, b=2)),
    (unpick(3), [-4]),
    (unpick(1), [0]),
]


class TheRun(LoomCase):
    def test_the_run_of_the_document(self):
        self.check(*RUN)

    def test_the_loom_behind_the_run(self):
        self.check(*RUN, (NOW, [0, 3, 2, 2, 1, 1, 7]), (TIED, text_answer("aaa/")), (WOOL, wool_answer(a=3)))

    def test_the_wrong_knot_of_the_run(self):
        # (2, 0) is a: told as soon as its row is done, and to the run's end.
        for count in range(3, len(RUN) + 1):
            self.check(*RUN[:count], (wrong(0), [0, 2, 0, 0]), (wrong(1), [-4]))


class TheLists(unittest.TestCase):
    def flat_run(self):
        return [number for call, answer in RUN for number in call]

    def test_no_calls(self):
        self.assertEqual(answers([]), [])

    def test_the_calls_as_they_are_written(self):
        calls = [0, 4, 97, 98, 99, 10, 2, 1, 2, 1, 9, 3, 97, 98, 98, 2, 1, 3]
        self.assertEqual(answers(calls), [1, 0, 1, -12, 1, -4, 7, 0, 3, 1, 2, 0, 0, 3])
        calls = [0, 4, 97, 97, 97, 10, 1, 3, 7, 0, 4, 1, 1, 3, 97, 98, 97, 5, 0, 4, 5, 1, 6]
        wool = [0, 2, 1] + [0] * 60
        self.assertEqual(answers(calls), [1, 0, 4, 3, 51, 42, 97, 1, -5, 2, 1, 1, 4, 0, 1, 0, 1, 5, 4, 97, 98, 97, 10,
                                          1, -4, 63] + wool)

    def test_the_answers_as_they_are_written(self):
        self.assertEqual(answers(self.flat_run()), [
            1, 0,
            4, 3, 97, 32, 98,
            2, 1, 3,
            7, 0, 3, 2, 2, 1, 1, 3,
            1, -12,
            7, 0, 3, 2, 2, 1, 1, 5,
            2, 0, 2,
            9, 8, 97, 97, 97, 10, 97, 98, 98, 10,
            63, 0, 4, 2,
        ] + [0] * 60 + [
            1, -4,
            1, 0,
        ])

    def test_empty_lists_within_calls(self):
        self.assertEqual(answers([0, 0, 0]), [1, -1])
        self.assertEqual(answers([0, 0, 1, 1]), [1, -6])
        self.assertEqual(answers([0, 2, 97, 10, 1, 1, 1, 1, 0]), [1, 0, 1, -12])

    def test_answers_are_plain_whole_numbers(self):
        given = answers(self.flat_run())
        self.assertIs(type(given), list)
        self.assertEqual({type(number) for number in given}, {int})

    def test_the_list_handed_in_stays_and_a_second_time_answers_as_the_first(self):
        calls = self.flat_run()
        before = copy.deepcopy(calls)
        first = answers(calls)
        kept = list(first)
        self.assertEqual(calls, before)
        self.assertEqual(answers(calls), kept)
        self.assertEqual(calls, before)
        self.assertEqual(first, kept)

    def test_nothing_is_kept_from_one_list_to_the_next(self):
        ask(begin("ab/", 2), row(1, "ab"))
        self.assertEqual(ask(NOW, TIED, wrong(0), WOOL, said(0)), [[-13]] * 5)
        ask(begin("ab/", 2), row(1, "xy"))
        self.assertEqual(ask(begin("ab/", 2), TIED, wrong(0), WOOL), [[0], [-5], [-4], wool_answer()])

    def test_a_list_is_not_changed_for_a_while_either(self):
        class Frozen(list):
            def refuse(self, *args):
                raise RuntimeError("the list handed in was changed")
            append = extend = insert = pop = remove = clear = sort = reverse = refuse
            __setitem__ = __delitem__ = __iadd__ = __imul__ = refuse

        self.assertEqual(answers(Frozen(self.flat_run())), answers(self.flat_run()))

    def test_many_calls(self):
        calls = [begin("ab/" * 512, 1, 1)] + [row(9, "bb" * 9 + "b")] * 298 + [NOW]
        given = ask(*calls)
        self.assertEqual(given[1:-1], [[1, 10]] * 298)
        self.assertEqual(given[-1], [0, 2, 512, 2, 298, 298, 2980])

    def test_a_number_that_no_call_has(self):
        with self.assertRaises(UnknownCall):
            answers([8])

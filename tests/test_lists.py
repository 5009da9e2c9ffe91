"""The interface: how calls and answers stand in one list, and that nothing is kept or changed."""

import contextlib
import io
import sys
import time
import unittest
from unittest import mock

from calling import ask
from partedcases.guesses import answers

# begin, four adds, one of them refused, and each other call; of the guesses 6 and 0 are left, and the truth is 7
LINE = [0, 3, 5, 1, 6, 1, 5, 1, 6, 1, 0, 4, 1, 5, 0, 6, 7, 3, 8, 3, 9, 2, 10, 11, 2, 1, 3, 7, 6, 7, 8,
        12, 5, 2, 13, 6, 14, 1, 4, 15, 1, 1, 16, 1, 17, 0, 1, 18, 1, 1, 2, 19, 1, 20, 21, 3, 22]
TOLD = [1, 0, 1, 0, 1, 1, 1, -17, 1, 2, 1, 5, 2, 2, 3, 2, 1, 0, 4, 3, 2, 1, 0, 1, 0, 1, 3, 1, 1, 4, 3, 1, 2, 4,
        1, 2, 1, 5, 2, 0, 1, 1, -22,
        1, 16, 2, 1, 0, 1, 0, 2, 2, 3, 2, 2, 1, 1, 2, 1, 2, 2, 1, 2, 2, 0, 1, 2, 4, 2, 5, 3, 7, 2, 6, 0]


def refuse(*given, **named):
    raise AssertionError("the list handed in is changed")


CHANGES = ["append", "extend", "insert", "pop", "remove", "clear", "sort", "reverse", "__setitem__", "__delitem__",
           "__iadd__", "__imul__"]
Unchanging = type("Unchanging", (list,), {name: refuse for name in CHANGES})


class Lists(unittest.TestCase):
    def test_how_many_then_these_call_by_call(self):
        self.assertEqual(answers(LINE), TOLD)

    def test_a_refusal_is_its_number_alone(self):
        self.assertEqual(answers([10]), [1, -61])
        self.assertEqual(answers([5, 0]), [1, -61])
        self.assertEqual(answers([0, 9, 0]), [1, -22])
        self.assertEqual(answers([0, 1, 0, 5, 0, 6, 7, 2, 11]), [1, 0, 1, -2, 1, -6, 1, -22, 1, -6])
        self.assertEqual(answers([0, 1, 0, 12, 41, 0, 13, 2, 14, 0, 0, 15, 2, 0, 16, 0, 17, 2, 0, 18, 0, 1, 0, 19, 0, 20,
                                  21, 2]),
                         [1, 0, 1, -22, 1, -22, 1, -33, 1, -22, 1, -33, 1, -22, 1, -22, 1, -2, 1, -6, 1, -22])

    def test_numbers_of_a_refused_call_are_passed_over(self):
        self.assertEqual(answers([1, 0, 0, 0, 0, 2, 6, 0, 2, 1, 6]), [1, -61, 1, -22, 1, -61, 1, 0, 1, -6])
        self.assertEqual(answers([18, 0, 0, 0, 12, 0, 22, 14, 22, 22, 0, 1, 0, 18, 22, 22, 0, 15, 22, 22, 22]),
                         [1, -61, 1, -61, 1, -61, 1, 0, 1, -22, 1, -22, 3, 1, 0, 0])

    def test_ways_of_nothing_and_no_guess_that_fits_are_one_number(self):
        self.assertEqual(answers([0, 1, 0, 7, 1, 13, 1]), [1, 0, 1, 0, 1, 0])

    def test_60_calls(self):
        self.assertEqual(ask(*[[0, 8, 255]] * 60), [[0]] * 60)
        self.assertEqual(ask(*[[11]] * 60), [[-61]] * 60)

    def test_60_calls_on_16_guesses_of_eight_cases_without_long_waiting(self):
        singles = [0] + [2 ** case for case in range(8)] + [3, 5, 9, 17, 33, 65, 129]
        before = [[0, 8, 0]] + [[1, one] for one in singles]
        started = time.perf_counter()
        for look in [[10], [11], [9, 4], [14, 3, 0], [15, 4, 1], [16, 4], [17, 4, 0], [18, 1, 0, 1], [19, 0], [20], [21, 255],
                     [22]]:
            each = ask(*before, *[look] * 43)[17:]
            self.assertEqual(each, [each[0]] * 43)
        # Seconds for all of these lists: far more than is needed, so that a busy machine is no fault.
        self.assertLess(time.perf_counter() - started, 30)

    def test_whole_numbers_alone(self):
        for line in [LINE, [0, 1, 1, 1, 0, 8, 0, 8, 1], [8, 0], [0, 1, 1, 1, 1, 18, 1, 0, 1, 14, 0, 1, 21, 0, 12, 40, 40]]:
            self.assertIs(type(answers(line)), list)
            self.assertEqual({type(number) for number in answers(line)}, {int})

    def test_what_is_handed_in_is_not_changed(self):
        line = list(LINE)
        answers(line)
        self.assertEqual(line, LINE)

    def test_not_for_a_while_either(self):
        self.assertEqual(answers(Unchanging(LINE)), TOLD)

    def test_a_second_time_is_as_the_first(self):
        first = answers(LINE)
        self.assertEqual(answers(LINE), first)
        first.clear()
        self.assertEqual(answers(LINE), TOLD)

    def test_each_list_has_a_new_object(self):
        answers(LINE)
        self.assertEqual(answers([4, 0, 10, 3, 0]), [1, -61, 1, -61, 1, -61])

    def test_prints_reads_and_imports_nothing(self):
        known = set(sys.modules)
        out, err = io.StringIO(), io.StringIO()
        with contextlib.redirect_stdout(out), contextlib.redirect_stderr(err), \
                mock.patch("builtins.open", refuse), mock.patch("builtins.input", refuse), \
                mock.patch("builtins.__import__", refuse), mock.patch("sys.stdin", None):
            told = answers(LINE)
        self.assertEqual(told, TOLD)
        self.assertEqual(out.getvalue() + err.getvalue(), "")
        self.assertEqual(set(sys.modules), known)


if __name__ == "__main__":
    unittest.main()

"""Promise 1: begin, add, drop, truth, guess, told."""

import unittest

from calling import BIG, add, adds, ask, ask_behind, begin, best, by_one, deep, depth, drop, enough, every, few_ways
from calling import fit, growth, guess, hardest, misleading, misleads, parted, tells, told, truth, ways, worst, wrong

EVERY_OTHER = [add(0), drop(0), truth(0), guess(0), wrong(0), best(), ways(0), every(0), growth(0), depth(), deep(),
               few_ways(0, 0), fit(0), misleads(0, 0), misleading(0, 0), worst(0), by_one(0, 0), enough(0, 0, 1),
               tells(0), hardest(), parted(0), told()]
WRONG_EVERY_OTHER = [add(BIG), drop(BIG), truth(BIG), guess(BIG), wrong(BIG), ways(BIG), every(BIG), growth(BIG),
                     few_ways(BIG, BIG), fit(BIG), misleads(BIG, BIG), misleading(BIG, BIG), worst(BIG),
                     by_one(BIG, BIG), enough(BIG, BIG, BIG), tells(BIG), parted(BIG)]


class NotBegun(unittest.TestCase):
    def test_every_other_call_is_refused(self):
        for call in EVERY_OTHER + WRONG_EVERY_OTHER:
            with self.subTest(call=call):
                self.assertEqual(ask(call), [[-61]])

    def test_refused_calls_leave_nothing_behind(self):
        self.assertEqual(ask_behind(EVERY_OTHER + [begin(2, 1)], guess(0), told(), truth(0)), [[-2], [2, 1, 0], [1]])

    def test_a_refused_begin_does_not_begin(self):
        for refused in [begin(0, 0), begin(9, 0), begin(3, 8)]:
            with self.subTest(refused=refused):
                self.assertEqual(ask(refused, *EVERY_OTHER), [[-22]] + [[-61]] * len(EVERY_OTHER))

    def test_a_begin_behind_a_refused_one(self):
        self.assertEqual(ask(begin(0, 0), add(1), begin(1, 1), add(1)), [[-22], [-61], [0], [0]])


class Begin(unittest.TestCase):
    def test_each_number_of_cases_with_nothing_and_all_true(self):
        for cases in range(1, 9):
            with self.subTest(cases=cases):
                self.assertEqual(ask(begin(cases, 0), truth(0)), [[0], [0]])
                self.assertEqual(ask(begin(cases, 2 ** cases - 1), truth(0)), [[0], [2 ** cases - 1]])

    def test_as_many_cases_as_told(self):
        for cases in range(1, 9):
            with self.subTest(cases=cases):
                self.assertEqual(
                    ask_behind([begin(cases, 0)], add(2 ** cases - 1), add(2 ** cases), growth(cases), growth(cases + 1)),
                    [[0], [-22], [1], [-22]])

    def test_cases_are_1_to_8(self):
        for cases in [0, 9, 10, 16, 31, 32, 64, 256, BIG - 1, BIG]:
            for true_ones in [0, 1, BIG]:
                with self.subTest(cases=cases, truth=true_ones):
                    self.assertEqual(ask(begin(cases, true_ones)), [[-22]])

    def test_no_other_cases_in_the_truth(self):
        for cases in range(1, 9):
            for true_ones in [2 ** cases, 2 ** cases + 1, 2 ** 30, BIG]:
                with self.subTest(cases=cases, truth=true_ones):
                    self.assertEqual(ask(begin(cases, true_ones)), [[-22]])

    def test_begins_anew(self):
        self.assertEqual(
            ask(begin(3, 5), add(7), add(1), begin(2, 2), guess(0), best(), truth(1), add(4), add(1), guess(0)),
            [[0], [0], [1], [0], [-2], [-6], [2], [-22], [0], [1]])

    def test_begins_anew_with_more_cases(self):
        self.assertEqual(ask(begin(1, 1), add(2), begin(8, 255), add(2), wrong(0)), [[0], [-22], [0], [0], [7, 253]])

    def test_a_refused_begin_behind_another_changes_nothing(self):
        for refused in [begin(0, 0), begin(9, 0), begin(BIG, BIG), begin(2, 4), begin(8, 256)]:
            with self.subTest(refused=refused):
                self.assertEqual(
                    ask(begin(3, 5), add(7), add(1), refused, guess(0), guess(1), guess(2), add(8), wrong(1), truth(0)),
                    [[0], [0], [1], [-22], [7], [1], [-2], [-22], [1, 4], [5]])


class Add(unittest.TestCase):
    def test_numbers_from_0_as_they_come(self):
        self.assertEqual(
            ask_behind([begin(3, 0)], add(5), add(0), add(7), guess(0), guess(1), guess(2)),
            [[0], [1], [2], [5], [0], [7]])

    def test_other_cases(self):
        for s in [8, 9, 255, BIG]:
            with self.subTest(s=s):
                self.assertEqual(ask_behind([begin(3, 0)], add(s), guess(0)), [[-22], [-2]])

    def test_none_twice(self):
        self.assertEqual(
            ask_behind([begin(3, 0)], add(5), add(2), add(5), add(2), guess(1), guess(2)),
            [[0], [1], [-17], [-17], [2], [-2]])

    def test_a_dropped_one_may_come_again(self):
        self.assertEqual(ask_behind([begin(3, 0), add(5), add(2)], drop(0), add(2), add(5)), [[1], [-17], [1]])

    def test_16_and_one_more(self):
        before = [begin(8, 0)] + adds(range(16))
        self.assertEqual(ask(*before)[1:], [[i] for i in range(16)])
        self.assertEqual(ask_behind(before, add(16), guess(15), guess(16)), [[-28], [15], [-2]])
        self.assertEqual(ask_behind(before, drop(3), add(16), guess(15), add(17)), [[15], [15], [16], [-28]])

    def test_the_refusal_told_first(self):
        before = [begin(8, 0)] + adds(range(240, 256))
        self.assertEqual(ask_behind(before, add(256), add(BIG), add(255), add(240), add(0)),
                         [[-22], [-22], [-17], [-17], [-28]])

    def test_all_16_sets_of_four_cases(self):
        before = [begin(4, 0)] + adds(range(16))
        self.assertEqual(ask_behind(before, add(7), add(16)), [[-17], [-22]])

    def test_all_sets_of_one_case(self):
        self.assertEqual(ask(begin(1, 0), add(0), add(1), add(0), add(1), add(2)), [[0], [0], [1], [-17], [-17], [-22]])


class Drop(unittest.TestCase):
    BEFORE = [begin(3, 0), add(5), add(0), add(7)]

    def test_those_behind_are_numbered_one_less(self):
        kept = {0: [0, 7], 1: [5, 7], 2: [5, 0]}
        for i in range(3):
            with self.subTest(i=i):
                self.assertEqual(
                    ask_behind(self.BEFORE, drop(i), guess(0), guess(1), guess(2), add(1)),
                    [[2], [kept[i][0]], [kept[i][1]], [-2], [2]])

    def test_how_many_there_are(self):
        self.assertEqual(ask_behind(self.BEFORE, drop(0), drop(0), drop(0), drop(0)), [[2], [1], [0], [-2]])

    def test_no_such_guess(self):
        for i in [3, 4, 16, BIG]:
            with self.subTest(i=i):
                self.assertEqual(ask_behind(self.BEFORE, drop(i), guess(0), guess(1), guess(2)), [[-2], [5], [0], [7]])

    def test_with_no_guesses(self):
        self.assertEqual(ask_behind([begin(3, 0)], drop(0), drop(BIG)), [[-2], [-2]])


class Truth(unittest.TestCase):
    def test_tells_what_it_was(self):
        self.assertEqual(ask_behind([begin(3, 6)], truth(1), truth(7), truth(7), truth(0)), [[6], [1], [7], [7]])

    def test_guesses_are_judged_by_the_new_one(self):
        self.assertEqual(ask_behind([begin(3, 6), add(1)], wrong(0), truth(1), wrong(0), guess(0)),
                         [[3, 7], [6], [0, 0], [1]])

    def test_other_cases(self):
        for s in [8, 15, 256, BIG]:
            with self.subTest(s=s):
                self.assertEqual(ask_behind([begin(3, 6), add(7)], truth(s), wrong(0), truth(0)), [[-22], [1, 1], [6]])


class Guess(unittest.TestCase):
    def test_the_set(self):
        self.assertEqual(ask_behind([begin(8, 0), add(255), add(0)], guess(0), guess(1), guess(0)), [[255], [0], [255]])

    def test_no_such_guess(self):
        self.assertEqual(ask_behind([begin(8, 0), add(255)], guess(1), guess(BIG), guess(0)), [[-2], [-2], [255]])
        self.assertEqual(ask_behind([begin(8, 0)], guess(0)), [[-2]])


class Told(unittest.TestCase):
    def test_cases_truth_how_many_guesses_these(self):
        self.assertEqual(ask_behind([begin(4, 9)] + adds([6, 15, 0, 9]), told()), [[4, 9, 4, 6, 15, 0, 9]])

    def test_no_guesses(self):
        self.assertEqual(ask(begin(1, 0), told()), [[0], [1, 0, 0]])
        self.assertEqual(ask(begin(8, 255), told()), [[0], [8, 255, 0]])

    def test_one(self):
        self.assertEqual(ask_behind([begin(1, 1), add(0)], told()), [[1, 1, 1, 0]])

    def test_16(self):
        strewn = [(7 + 11 * step) % 256 for step in range(16)]
        self.assertEqual(ask_behind([begin(8, 200)] + adds(strewn), told()), [[8, 200, 16] + strewn])

    def test_as_they_came_and_not_rising(self):
        self.assertEqual(ask_behind([begin(3, 0), add(7), add(2), add(5)], told()), [[3, 0, 3, 7, 2, 5]])

    def test_behind_each_change(self):
        self.assertEqual(
            ask(begin(3, 5), told(), add(7), told(), add(1), told(), truth(2), told(), drop(0), told(), begin(2, 3), told()),
            [[0], [3, 5, 0], [0], [3, 5, 1, 7], [1], [3, 5, 2, 7, 1], [5], [3, 2, 2, 7, 1], [1], [3, 2, 1, 1],
             [0], [2, 3, 0]])

    def test_what_was_told_stays_as_it_was(self):
        self.assertEqual(ask_behind([begin(2, 0), add(1)], told(), add(2), told()), [[2, 0, 1, 1], [1], [2, 0, 2, 1, 2]])

    def test_no_refused_call_changes_it(self):
        refused = [begin(0, 0), begin(3, 8), add(8), add(7), drop(2), truth(8), guess(2), wrong(2), ways(8), every(8),
                   growth(4), few_ways(41, 0), few_ways(0, 41), fit(8), misleads(0, 8), misleads(4, 0), misleading(4, 0),
                   worst(4), by_one(4, 0), enough(0, 2, 1), enough(0, 0, 0), enough(0, 0, 1), tells(2), parted(8)]
        for one in refused:
            with self.subTest(refused=one):
                each = ask_behind([begin(3, 5), add(7), add(5)], told(), one, told())
                self.assertEqual(each[0], [3, 5, 2, 7, 5])
                self.assertEqual(each[2], each[0])
                self.assertTrue(len(each[1]) == 1 and each[1][0] < 0, each)


if __name__ == "__main__":
    unittest.main()

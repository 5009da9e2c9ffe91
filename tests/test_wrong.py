"""Promise 2: wrong, best, fit."""

import unittest

from calling import BIG, add, adds, ask_behind, begin, best, drop, fit, truth, wrong


class Wrong(unittest.TestCase):
    def test_how_many_then_which(self):
        before = [begin(4, 6), add(5), add(6), add(9), add(14)]
        self.assertEqual(ask_behind(before, wrong(0), wrong(1), wrong(2), wrong(3)), [[2, 3], [0, 0], [4, 15], [1, 8]])

    def test_the_truth_itself(self):
        self.assertEqual(ask_behind([begin(8, 170), add(170)], wrong(0)), [[0, 0]])

    def test_wrong_everywhere(self):
        self.assertEqual(ask_behind([begin(8, 170), add(85)], wrong(0)), [[8, 255]])

    def test_each_case_of_eight(self):
        for case in range(8):
            with self.subTest(case=case):
                self.assertEqual(ask_behind([begin(8, 255), add(255 - 2 ** case)], wrong(0)), [[1, 2 ** case]])
                self.assertEqual(ask_behind([begin(8, 0), add(2 ** case)], wrong(0)), [[1, 2 ** case]])

    def test_one_case(self):
        self.assertEqual(ask_behind([begin(1, 1), add(0), add(1)], wrong(0), wrong(1)), [[1, 1], [0, 0]])

    def test_behind_a_drop(self):
        self.assertEqual(ask_behind([begin(2, 0), add(3), add(1)], drop(0), wrong(0), wrong(1)), [[1], [1, 1], [-2]])

    def test_no_such_guess(self):
        self.assertEqual(ask_behind([begin(2, 0), add(3)], wrong(1), wrong(BIG), wrong(0)), [[-2], [-2], [2, 3]])
        self.assertEqual(ask_behind([begin(2, 0)], wrong(0)), [[-2]])


class Best(unittest.TestCase):
    def test_no_guesses(self):
        self.assertEqual(ask_behind([begin(3, 0)], best()), [[-6]])
        self.assertEqual(ask_behind([begin(3, 0), add(1)], drop(0), best()), [[0], [-6]])

    def test_one(self):
        self.assertEqual(ask_behind([begin(3, 0), add(7)], best()), [[0, 3]])

    def test_the_fewest(self):
        self.assertEqual(ask_behind([begin(4, 6), add(9), add(5), add(14), add(8)], best()), [[2, 1]])

    def test_of_like_ones_the_first(self):
        self.assertEqual(ask_behind([begin(3, 0)] + adds([7, 4, 1, 2]), best()), [[1, 1]])
        self.assertEqual(ask_behind([begin(3, 0)] + adds([6, 5, 3]), best()), [[0, 2]])

    def test_fewest_and_not_the_least_set(self):
        # Wrong on case 7 alone is better than wrong on cases 0 and 1, though 3 is below 128.
        self.assertEqual(ask_behind([begin(8, 0), add(3), add(128)], best()), [[1, 1]])

    def test_the_truth_itself_last(self):
        self.assertEqual(ask_behind([begin(8, 15)] + adds(range(16)), best()), [[15, 0]])

    def test_changes_with_the_truth_and_a_drop(self):
        before = [begin(3, 7)] + adds([0, 1, 7])
        self.assertEqual(ask_behind(before, best(), drop(2), best(), truth(0), best()), [[2, 0], [2], [1, 2], [7], [0, 0]])

    def test_all_wrong_everywhere(self):
        self.assertEqual(ask_behind([begin(8, 255), add(0)], best()), [[0, 8]])


class Fit(unittest.TestCase):
    # Wrong on 0 and 1; nowhere; everywhere; on 3.
    FOUR = [begin(4, 6)] + adds([5, 6, 9, 14])

    def test_how_many_then_these_rising(self):
        self.assertEqual(ask_behind(self.FOUR, fit(1), fit(4), fit(8), fit(12), fit(5)),
                         [[2, 1, 3], [3, 0, 1, 3], [2, 0, 1], [2, 0, 1], [2, 1, 3]])

    def test_guesses_are_told_by_their_numbers(self):
        self.assertEqual(ask_behind([begin(3, 7)] + adds([7, 6, 0, 3]), fit(2)), [[3, 0, 1, 3]])

    def test_right_in_saying_0_counts_too(self):
        self.assertEqual(ask_behind([begin(2, 1), add(0), add(2)], fit(2), fit(1)), [[1, 0], [0]])

    def test_a_sample_of_nothing(self):
        self.assertEqual(ask_behind(self.FOUR, fit(0)), [[4, 0, 1, 2, 3]])

    def test_a_sample_of_all(self):
        self.assertEqual(ask_behind(self.FOUR, fit(15), drop(1), fit(15)), [[1, 1], [3], [0]])

    def test_no_guesses(self):
        self.assertEqual(ask_behind([begin(4, 6)], fit(0), fit(15)), [[0], [0]])

    def test_one(self):
        self.assertEqual(ask_behind([begin(4, 6), add(14)], fit(0), fit(7), fit(8)), [[1, 0], [1, 0], [0]])

    def test_one_case(self):
        self.assertEqual(ask_behind([begin(1, 1), add(0), add(1)], fit(0), fit(1)), [[2, 0, 1], [1, 1]])

    def test_wrong_everywhere(self):
        self.assertEqual(ask_behind([begin(8, 170), add(85)], fit(0), *[fit(2 ** case) for case in range(8)]),
                         [[1, 0]] + [[0]] * 8)

    def test_all_sets_of_three_cases(self):
        self.assertEqual(ask_behind([begin(3, 5)] + adds(range(8)), fit(1), fit(3), fit(7)),
                         [[4, 1, 3, 5, 7], [2, 1, 5], [1, 5]])

    def test_by_the_new_truth(self):
        self.assertEqual(ask_behind(self.FOUR, truth(9), fit(15), fit(1), fit(2)), [[6], [1, 2], [2, 0, 2], [2, 0, 2]])

    def test_16_guesses_of_eight_cases(self):
        before = [begin(8, 0)] + adds([low * 17 for low in range(16)])
        self.assertEqual(ask_behind(before, fit(128), fit(0), fit(255)),
                         [[8] + list(range(8)), [16] + list(range(16)), [1, 0]])

    def test_other_cases(self):
        self.assertEqual(ask_behind(self.FOUR, fit(16), fit(31), fit(BIG)), [[-22], [-22], [-22]])
        self.assertEqual(ask_behind([begin(8, 0)], fit(256), fit(255)), [[-22], [0]])


if __name__ == "__main__":
    unittest.main()

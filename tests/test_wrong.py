"""Promise 2: wrong, best."""

import unittest

from calling import BIG, add, adds, ask_behind, begin, best, drop, truth, wrong


class Wrong(unittest.TestCase):
    def test_how_many_then_which(self):
        before = [begin(4, 6), add(5), add(6), add(9), add(14)]
        self.assertEqual(ask_behind(before, wrong(0), wrong(1), wrong(2), wrong(3)), [[2, 3], [0, 0], [4, 15], [1, 8]])

    def test_the_truth_itself(self):
        self.assertEqual(ask_behind([begin(8, 170), add(170)], wrong(0)), [[0, 0]])

    def test_wrong_everywhere(self):
        self.assertEqual(ask_behind([begin(8, 170), add(85)], wrong(0)), [[8, 255]])

    def test_each_case_of_eight(self):
        for case in range(8):
            with self.subTest(case=case):
                self.assertEqual(ask_behind([begin(8, 255), add(255 - 2 ** case)], wrong(0)), [[1, 2 ** case]])
                self.assertEqual(ask_behind([begin(8, 0), add(2 ** case)], wrong(0)), [[1, 2 ** case]])

    def test_one_case(self):
        self.assertEqual(ask_behind([begin(1, 1), add(0), add(1)], wrong(0), wrong(1)), [[1, 1], [0, 0]])

    def test_behind_a_drop(self):
        self.assertEqual(ask_behind([begin(2, 0), add(3), add(1)], drop(0), wrong(0), wrong(1)), [[1], [1, 1], [-2]])

    def test_no_such_guess(self):
        self.assertEqual(ask_behind([begin(2, 0), add(3)], wrong(1), wrong(BIG), wrong(0)), [[-2], [-2], [2, 3]])
        self.assertEqual(ask_behind([begin(2, 0)], wrong(0)), [[-2]])


class Best(unittest.TestCase):
    def test_no_guesses(self):
        self.assertEqual(ask_behind([begin(3, 0)], best()), [[-6]])
        self.assertEqual(ask_behind([begin(3, 0), add(1)], drop(0), best()), [[0], [-6]])

    def test_one(self):
        self.assertEqual(ask_behind([begin(3, 0), add(7)], best()), [[0, 3]])

    def test_the_fewest(self):
        self.assertEqual(ask_behind([begin(4, 6), add(9), add(5), add(14), add(8)], best()), [[2, 1]])

    def test_of_like_ones_the_first(self):
        self.assertEqual(ask_behind([begin(3, 0)] + adds([7, 4, 1, 2]), best()), [[1, 1]])
        self.assertEqual(ask_behind([begin(3, 0)] + adds([6, 5, 3]), best()), [[0, 2]])

    def test_fewest_and_not_the_least_set(self):
        # Wrong on case 7 alone is better than wrong on cases 0 and 1, though 3 is below 128.
        self.assertEqual(ask_behind([begin(8, 0), add(3), add(128)], best()), [[1, 1]])

    def test_the_truth_itself_last(self):
        self.assertEqual(ask_behind([begin(8, 15)] + adds(range(16)), best()), [[15, 0]])

    def test_changes_with_the_truth_and_a_drop(self):
        before = [begin(3, 7)] + adds([0, 1, 7])
        self.assertEqual(ask_behind(before, best(), drop(2), best(), truth(0), best()), [[2, 0], [2], [1, 2], [7], [0, 0]])

    def test_all_wrong_everywhere(self):
        self.assertEqual(ask_behind([begin(8, 255), add(0)], best()), [[0, 8]])


if __name__ == "__main__":
    unittest.main()

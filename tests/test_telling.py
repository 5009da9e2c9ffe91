"""Promise 5: tells, hardest."""

import unittest

from calling import BIG, add, adds, ask_behind, begin, drop, hardest, tells, truth

NONE = [begin(3, 5)]
ONE = [begin(3, 5), add(6)]
ALL_OF_THREE = [begin(3, 5)] + adds(range(8))
STEPS = [begin(4, 0)] + adds([0, 1, 3, 7, 15])
DIFFER_ON_ONE = [begin(4, 0), add(5), add(7)]
# Each says 1 of one case alone, but the first: of none.
SINGLE = [begin(8, 255)] + adds([0] + [2 ** case for case in range(8)])
FULL = [begin(8, 0)] + adds([low * 17 for low in range(16)])


class Tells(unittest.TestCase):
    def test_how_many_then_the_set(self):
        self.assertEqual(ask_behind(STEPS, *[tells(i) for i in range(5)]), [[1, 1], [2, 3], [2, 6], [2, 12], [1, 8]])

    def test_one(self):
        self.assertEqual(ask_behind(ONE, tells(0)), [[0, 0]])

    def test_all_sets_of_three_cases(self):
        self.assertEqual(ask_behind(ALL_OF_THREE, *[tells(i) for i in range(8)]), [[3, 7]] * 8)

    def test_two_that_differ_on_one_case(self):
        self.assertEqual(ask_behind(DIFFER_ON_ONE, tells(0), tells(1)), [[1, 2], [1, 2]])

    def test_the_fewest_and_not_the_least_number(self):
        # Cases 0 and 1 tell too, as the set 3, but case 2 tells alone.
        self.assertEqual(ask_behind([begin(3, 0)] + adds([0, 5, 6]), tells(0), tells(1), tells(2)), [[1, 4], [1, 1], [1, 2]])

    def test_of_like_ones_the_least_number(self):
        self.assertEqual(ask_behind([begin(8, 0)] + adds([0, 192]), tells(0), tells(1)), [[1, 64], [1, 64]])
        self.assertEqual(ask_behind([begin(4, 0)] + adds([0, 3, 12]), tells(0)), [[2, 5]])
        self.assertEqual(ask_behind([begin(5, 0)] + adds([0, 20, 10]), tells(0)), [[2, 6]])

    def test_from_all_others_taken_together(self):
        self.assertEqual(ask_behind(SINGLE, tells(0), tells(1), tells(8)), [[8, 255], [1, 1], [1, 128]])

    def test_16_guesses_of_eight_cases(self):
        self.assertEqual(ask_behind(FULL, *[tells(i) for i in range(16)]), [[4, 15]] * 16)

    def test_one_case(self):
        self.assertEqual(ask_behind([begin(1, 0), add(1)], tells(0), add(0), tells(0), tells(1)),
                         [[0, 0], [1], [1, 1], [1, 1]])

    def test_wrong_everywhere_beside_the_truth(self):
        self.assertEqual(ask_behind([begin(8, 170), add(85), add(170)], tells(0), tells(1)), [[1, 1], [1, 1]])

    def test_behind_a_drop_and_an_add(self):
        self.assertEqual(ask_behind(STEPS, drop(2), tells(1), tells(2), add(5), tells(2), tells(4)),
                         [[4], [2, 3], [2, 10], [4], [2, 10], [2, 6]])

    def test_the_truth_is_no_matter(self):
        self.assertEqual(ask_behind(STEPS, truth(15), tells(1), truth(1), tells(1)), [[0], [2, 3], [15], [2, 3]])

    def test_no_such_guess(self):
        self.assertEqual(ask_behind(NONE, tells(0), tells(BIG)), [[-2], [-2]])
        self.assertEqual(ask_behind(STEPS, tells(5), tells(16), tells(BIG), tells(4)), [[-2], [-2], [-2], [1, 8]])
        self.assertEqual(ask_behind(FULL, tells(16)), [[-2]])


class Hardest(unittest.TestCase):
    def test_the_guess_then_how_many(self):
        self.assertEqual(ask_behind(SINGLE, hardest()), [[0, 8]])
        self.assertEqual(ask_behind([begin(8, 255)] + adds([2 ** case for case in range(8)] + [0]), hardest()), [[8, 8]])

    def test_of_like_ones_the_first(self):
        self.assertEqual(ask_behind(STEPS, hardest()), [[1, 2]])
        self.assertEqual(ask_behind(ALL_OF_THREE, hardest()), [[0, 3]])
        self.assertEqual(ask_behind(DIFFER_ON_ONE, hardest()), [[0, 1]])
        self.assertEqual(ask_behind(FULL, hardest()), [[0, 4]])

    def test_by_how_many_and_not_by_the_set(self):
        # Guess 0 is told by case 3, a greater number than that of cases 0 and 1, by which guess 1 is told.
        before = [begin(4, 0)] + adds([11, 0, 1, 2])
        self.assertEqual(ask_behind(before, tells(0), tells(1), hardest()), [[1, 8], [2, 3], [1, 2]])

    def test_one(self):
        self.assertEqual(ask_behind(ONE, hardest()), [[0, 0]])

    def test_one_case(self):
        self.assertEqual(ask_behind([begin(1, 0), add(1)], hardest(), add(0), hardest()), [[0, 0], [1], [0, 1]])

    def test_behind_a_drop(self):
        self.assertEqual(ask_behind(SINGLE, drop(0), hardest(), drop(0), hardest()), [[8], [0, 1], [7], [0, 1]])
        self.assertEqual(ask_behind(STEPS, drop(1), hardest(), drop(2), hardest()), [[4], [1, 2], [3], [1, 2]])

    def test_the_truth_is_no_matter(self):
        self.assertEqual(ask_behind(STEPS, truth(3), hardest()), [[0], [1, 2]])

    def test_no_guesses(self):
        self.assertEqual(ask_behind(NONE, hardest()), [[-6]])
        self.assertEqual(ask_behind(ONE, drop(0), hardest(), tells(0)), [[0], [-6], [-2]])


if __name__ == "__main__":
    unittest.main()

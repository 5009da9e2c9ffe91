"""Promise 4: misleads, misleading, worst, by_one, enough."""

import unittest

from calling import BIG, add, adds, ask_behind, begin, by_one, drop, enough, misleading, misleads, truth, worst

NONE = [begin(4, 6)]
# Wrong on 0 and 1; nowhere; everywhere; on 3.
FOUR = [begin(4, 6)] + adds([5, 6, 9, 14])
EVERYWHERE = [begin(8, 170), add(85)]
ALL_OF_THREE = [begin(3, 5)] + adds(range(8))
ONE_CASE = [begin(1, 1), add(0)]
# Wrong on case 2; on cases 1 and 2.
DIFFER_ON_ONE = [begin(3, 3), add(7), add(5)]


class Misleads(unittest.TestCase):
    def test_the_first_guess_by_which_it_does(self):
        self.assertEqual(ask_behind(FOUR, misleads(1, 0), misleads(3, 0), misleads(2, 4), misleads(1, 1), misleads(0, 1)),
                         [[0], [2], [0], [3], [1]])

    def test_e_or_more(self):
        self.assertEqual(ask_behind(FOUR, misleads(2, 12), misleads(3, 12), misleads(1, 7), misleads(2, 7)),
                         [[0], [-33], [3], [-33]])

    def test_the_first_and_not_the_one_that_is_wrong_on_the_most(self):
        self.assertEqual(ask_behind([begin(4, 0)] + adds([0, 1, 15, 7]), misleads(1, 0), misleads(2, 0)), [[1], [2]])

    def test_e_is_told_ahead_of_s(self):
        self.assertEqual(ask_behind(FOUR, misleads(16, 0), misleads(0, 16), misleads(0, 15), misleads(15, 0)),
                         [[-33], [-22], [1], [-33]])

    def test_e_of_0_and_above_all(self):
        self.assertEqual(ask_behind(FOUR, misleads(0, 0), misleads(4, 0), misleads(5, 0), misleads(BIG, 0)),
                         [[0], [2], [-33], [-33]])

    def test_a_sample_of_all_misleads_by_0_alone(self):
        self.assertEqual(ask_behind(FOUR, misleads(0, 15), misleads(1, 15), drop(1), misleads(0, 15)),
                         [[1], [-33], [3], [-33]])

    def test_a_sample_of_nothing(self):
        self.assertEqual(ask_behind(EVERYWHERE, misleads(8, 0), misleads(9, 0), misleads(0, 128)), [[0], [-33], [-33]])

    def test_no_guesses(self):
        self.assertEqual(ask_behind(NONE, misleads(0, 0), misleads(0, 15), misleads(0, 16)), [[-33], [-33], [-22]])

    def test_one_case(self):
        self.assertEqual(ask_behind(ONE_CASE, misleads(1, 0), misleads(1, 1), misleads(0, 1), misleads(0, 2)),
                         [[0], [-33], [-33], [-22]])

    def test_two_that_differ_on_one_case(self):
        self.assertEqual(ask_behind(DIFFER_ON_ONE, misleads(1, 3), misleads(2, 3), misleads(2, 1), misleads(0, 4)),
                         [[0], [-33], [1], [-33]])

    def test_all_sets_of_three_cases(self):
        # With nothing seen of two cases a guess may be wrong on both.
        self.assertEqual(ask_behind(ALL_OF_THREE, misleads(2, 1), misleads(3, 1), misleads(3, 0), misleads(1, 6)),
                         [[3], [-33], [2], [4]])

    def test_by_the_new_truth_and_behind_a_drop(self):
        self.assertEqual(ask_behind(FOUR, truth(9), misleads(4, 0), misleads(1, 15), drop(0), misleads(4, 0)),
                         [[6], [1], [-33], [3], [0]])

    def test_other_cases_are_told_ahead_of_none(self):
        self.assertEqual(ask_behind(FOUR, misleads(5, 16), misleads(BIG, BIG), misleads(0, BIG)), [[-22], [-22], [-22]])


class Misleading(unittest.TestCase):
    def test_how_many_then_of_how_many(self):
        counts = {0: [[1, 1], [4, 4], [6, 6], [4, 4], [1, 1]],
                  1: [[1, 1], [4, 4], [4, 6], [1, 4], [0, 1]],
                  2: [[1, 1], [2, 4], [1, 6], [0, 4], [0, 1]],
                  3: [[1, 1], [0, 4], [0, 6], [0, 4], [0, 1]],
                  5: [[0, 1], [0, 4], [0, 6], [0, 4], [0, 1]]}
        for e, each in counts.items():
            with self.subTest(e=e):
                self.assertEqual(ask_behind(FOUR, *[misleading(k, e) for k in range(5)]), each)

    def test_each_sample_once(self):
        # By both guesses misleads the sample of case 2.
        self.assertEqual(ask_behind([begin(3, 0), add(1), add(2)], misleading(1, 1)), [[3, 3]])

    def test_k_is_told_ahead_of_e(self):
        self.assertEqual(ask_behind(FOUR, misleading(0, 5), misleading(5, 0), misleading(1, 2), misleading(2, 1)),
                         [[0, 1], [-22], [2, 4], [4, 6]])

    def test_no_guesses(self):
        self.assertEqual(ask_behind(NONE, *[misleading(k, 0) for k in range(5)]), [[0, 1], [0, 4], [0, 6], [0, 4], [0, 1]])

    def test_wrong_everywhere(self):
        self.assertEqual(ask_behind(EVERYWHERE, misleading(0, 8), misleading(0, 9), misleading(1, 0), misleading(8, 0)),
                         [[1, 1], [0, 1], [0, 8], [0, 1]])

    def test_the_truth_itself(self):
        self.assertEqual(ask_behind([begin(8, 170), add(170)], misleading(4, 0), misleading(4, 1), misleading(8, 0)),
                         [[70, 70], [0, 70], [1, 1]])

    def test_one_case(self):
        self.assertEqual(ask_behind(ONE_CASE, misleading(0, 1), misleading(1, 1), misleading(2, 1)), [[1, 1], [0, 1], [-22]])

    def test_all_sets_of_three_cases(self):
        self.assertEqual(ask_behind(ALL_OF_THREE, misleading(1, 2), misleading(1, 3), misleading(2, 1), misleading(3, 1)),
                         [[3, 3], [0, 3], [3, 3], [0, 1]])

    def test_how_many_samples_of_eight_cases(self):
        self.assertEqual(ask_behind(EVERYWHERE, *[misleading(k, BIG) for k in range(9)]),
                         [[0, many] for many in [1, 8, 28, 56, 70, 56, 28, 8, 1]])

    def test_fewer_cases(self):
        self.assertEqual(ask_behind(FOUR, misleading(5, 0), misleading(BIG, 0), misleading(BIG, BIG)), [[-22]] * 3)
        self.assertEqual(ask_behind(NONE, misleading(5, 0)), [[-22]])
        self.assertEqual(ask_behind(EVERYWHERE, misleading(9, 0)), [[-22]])


class Worst(unittest.TestCase):
    def test_the_sample_then_on_how_many(self):
        self.assertEqual(ask_behind(FOUR, *[worst(k) for k in range(5)]), [[0, 4], [4, 2], [12, 2], [7, 1], [15, 0]])

    def test_of_like_ones_the_least_number(self):
        self.assertEqual(ask_behind([begin(3, 0), add(4), add(1)], worst(1), worst(2)), [[1, 1], [3, 1]])
        self.assertEqual(ask_behind([begin(3, 0), add(1), add(4)], worst(1), worst(2)), [[1, 1], [3, 1]])

    def test_wrong_on_the_most_and_not_the_least_number(self):
        # Case 0 alone is fitted by a guess that's wrong on one, case 7 by one that's wrong on all others.
        self.assertEqual(ask_behind([begin(8, 0), add(2), add(127)], worst(1), worst(2)), [[128, 7], [5, 1]])

    def test_the_truth_itself(self):
        self.assertEqual(ask_behind([begin(3, 5), add(5)], *[worst(k) for k in range(4)]), [[0, 0], [1, 0], [3, 0], [7, 0]])

    def test_wrong_everywhere(self):
        self.assertEqual(ask_behind(EVERYWHERE, worst(0), worst(1), worst(8)), [[0, 8], [-33], [-33]])

    def test_no_guess_fits_a_sample_of_all(self):
        self.assertEqual(ask_behind(FOUR, drop(1), worst(3), worst(4)), [[3], [7, 1], [-33]])

    def test_no_guesses(self):
        self.assertEqual(ask_behind(NONE, worst(0), worst(4), worst(5)), [[-33], [-33], [-22]])

    def test_one_case(self):
        self.assertEqual(ask_behind(ONE_CASE, worst(0), worst(1), add(1), worst(1)), [[0, 1], [-33], [1], [1, 0]])

    def test_all_sets_of_three_cases(self):
        self.assertEqual(ask_behind(ALL_OF_THREE, *[worst(k) for k in range(4)]), [[0, 3], [1, 2], [3, 1], [7, 0]])

    def test_two_that_differ_on_one_case(self):
        self.assertEqual(ask_behind(DIFFER_ON_ONE, *[worst(k) for k in range(4)]), [[0, 2], [1, 2], [3, 1], [-33]])

    def test_by_the_new_truth(self):
        self.assertEqual(ask_behind([begin(2, 0), add(1)], worst(1), truth(2), worst(0), worst(1)),
                         [[2, 1], [0], [0, 2], [-33]])

    def test_fewer_cases(self):
        self.assertEqual(ask_behind(FOUR, worst(5), worst(BIG)), [[-22], [-22]])
        self.assertEqual(ask_behind(EVERYWHERE, worst(9)), [[-22]])


class ByOne(unittest.TestCase):
    def test_guess_by_guess(self):
        counts = {0: [[4], [9], [10], [5], [1]],
                  1: [[3], [5], [4], [1], [0]],
                  2: [[2], [2], [1], [0], [0]],
                  3: [[1], [0], [0], [0], [0]],
                  4: [[1], [0], [0], [0], [0]],
                  5: [[0], [0], [0], [0], [0]]}
        for e, each in counts.items():
            with self.subTest(e=e):
                self.assertEqual(ask_behind(FOUR, *[by_one(k, e) for k in range(5)]), each)

    def test_a_sample_counts_for_each_guess(self):
        self.assertEqual(ask_behind([begin(3, 0), add(1), add(2)], by_one(1, 1), misleading(1, 1)), [[4], [3, 3]])

    def test_k_is_told_ahead_of_e(self):
        self.assertEqual(ask_behind(FOUR, by_one(0, 5), by_one(5, 0), by_one(0, 1), by_one(1, 0)), [[0], [-22], [3], [9]])

    def test_no_guesses(self):
        self.assertEqual(ask_behind(NONE, by_one(0, 0), by_one(4, 0)), [[0], [0]])

    def test_wrong_everywhere(self):
        self.assertEqual(ask_behind(EVERYWHERE, by_one(0, 8), by_one(0, 9), by_one(1, 0), by_one(8, 0)),
                         [[1], [0], [0], [0]])

    def test_the_truth_itself(self):
        self.assertEqual(ask_behind([begin(8, 170), add(170)], by_one(4, 0), by_one(4, 1), by_one(8, 0)), [[70], [0], [1]])

    def test_one_case(self):
        self.assertEqual(ask_behind(ONE_CASE, by_one(0, 1), by_one(1, 0), by_one(2, 0)), [[1], [0], [-22]])

    def test_all_sets_of_three_cases(self):
        self.assertEqual(ask_behind(ALL_OF_THREE, by_one(0, 0), by_one(1, 0), by_one(1, 2), by_one(2, 1), by_one(3, 0)),
                         [[8], [12], [3], [3], [1]])

    def test_16_guesses_of_eight_cases(self):
        self.assertEqual(ask_behind([begin(8, 0)] + adds([low * 17 for low in range(16)]), by_one(0, 0), by_one(1, 1)),
                         [[16], [4 * 6 + 6 * 4 + 4 * 2]])

    def test_fewer_cases(self):
        self.assertEqual(ask_behind(FOUR, by_one(5, 0), by_one(BIG, BIG)), [[-22], [-22]])
        self.assertEqual(ask_behind(NONE, by_one(5, 0)), [[-22]])
        self.assertEqual(ask_behind(EVERYWHERE, by_one(9, 0)), [[-22]])


class Enough(unittest.TestCase):
    def check(self, before, each):
        self.assertEqual(ask_behind(before, *[enough(*given) for given in each]), [[k] for k in each.values()])

    def test_the_least_k(self):
        # Of FOUR mislead by 1, for k of 0 to 4: all, all, 4 of 6, 1 of 4, none.
        self.check(FOUR, {(1, 0, 1): 4, (1, 1, 1): 0, (1, 1, 2): 3, (1, 1, 5): 4, (1, 999, 1000): 2})
        # By 2: all, 2 of 4, 1 of 6, none.
        self.check(FOUR, {(2, 0, 1): 3, (2, 1, 1): 0, (2, 3, 4): 1, (2, 1, 3): 2, (2, 1, 10): 3})

    def test_just_as_much_as_asked(self):
        self.check(FOUR, {(1, 2, 3): 2, (1, 666, 1000): 3, (1, 667, 1000): 2, (1, 1, 4): 3, (1, 250, 1000): 3,
                          (1, 249, 1000): 4})
        self.check(FOUR, {(2, 1, 2): 1, (2, 499, 999): 2, (2, 499, 1000): 2, (2, 500, 1000): 1, (2, 1, 6): 2,
                          (2, 166, 1000): 3, (2, 167, 1000): 2})

    def test_none_does(self):
        # By 0 every sample misleads, as the truth is among the guesses.
        self.check(FOUR, {(0, 0, 1): -33, (0, 999, 1000): -33, (0, 1, 1): 0, (0, 1000, 1000): 0})

    def test_by_0_without_the_truth(self):
        self.assertEqual(ask_behind(FOUR, drop(1), enough(0, 0, 1), enough(0, 1, 4), enough(0, 2, 3)), [[3], [4], [3], [2]])

    def test_e_above_all(self):
        self.check(FOUR, {(5, 0, 1): 0, (BIG, 0, 1000): 0, (4, 0, 1): 1, (3, 0, 1): 1})

    def test_no_guesses(self):
        self.check(NONE, {(0, 0, 1): 0, (0, 0, 1000): 0, (BIG, 1, 1): 0})

    def test_wrong_everywhere(self):
        self.check(EVERYWHERE, {(8, 0, 1): 1, (9, 0, 1): 0, (0, 0, 1): 1, (0, 1, 1): 0})

    def test_the_truth_itself(self):
        self.check([begin(8, 170), add(170)], {(0, 0, 1): -33, (1, 0, 1): 0})

    def test_one_case(self):
        self.check(ONE_CASE, {(1, 0, 1): 1, (1, 1, 1): 0, (0, 0, 1): 1, (2, 0, 1): 0})

    def test_all_sets_of_three_cases(self):
        self.check(ALL_OF_THREE, {(3, 0, 1): 1, (2, 0, 1): 2, (1, 0, 1): 3, (1, 999, 1000): 3, (0, 0, 1): -33})

    def test_two_that_differ_on_one_case(self):
        # By 1: all, 2 of 3, 1 of 3, none; by 2: all, 1 of 3, none.
        self.check(DIFFER_ON_ONE, {(1, 2, 3): 1, (1, 1, 3): 2, (1, 1, 4): 3, (2, 1, 3): 1, (2, 333, 1000): 2})

    def test_all_eight_cases(self):
        self.check([begin(8, 0)] + adds([2 ** case for case in range(8)]), {(1, 0, 1): 8, (1, 999, 1000): 8, (2, 0, 1): 0})

    def test_q_is_1_to_1000(self):
        self.check(FOUR, {(1, 0, 0): -22, (1, 0, 1): 4, (1, 0, 1000): 4, (1, 0, 1001): -22, (1, 0, BIG): -22,
                          (1, 1000, 1000): 0, (1, 1001, 1001): -22, (1, BIG, BIG): -22})

    def test_p_is_not_above_q(self):
        self.check(FOUR, {(1, 1, 0): -22, (1, 2, 1): -22, (1, 1, 1): 0, (1, 1001, 1000): -22, (1, BIG, 1000): -22,
                          (1, 7, 6): -22, (1, 6, 6): 0})

    def test_what_is_not_as_told_is_told_ahead_of_none(self):
        self.check(FOUR, {(0, 0, 0): -22, (0, 2, 1): -22, (0, 0, 1001): -22, (0, 0, 1): -33})
        self.check(NONE, {(0, 0, 0): -22, (0, 2, 1): -22})

    def test_by_the_new_truth(self):
        self.assertEqual(ask_behind([begin(3, 0), add(1)], enough(1, 0, 1), truth(1), enough(1, 0, 1), enough(0, 0, 1)),
                         [[3], [0], [0], [-33]])


if __name__ == "__main__":
    unittest.main()

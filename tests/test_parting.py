"""Promise 3: ways, every, parted, growth, depth, deep, few_ways."""

import math
import unittest

from calling import BIG, add, adds, ask_behind, begin, deep, depth, drop, every, few_ways, growth, parted, truth, ways

NONE = [begin(3, 5)]
ONE = [begin(3, 5), add(6)]
ALL_OF_THREE = [begin(3, 5)] + adds(range(8))
# Up to where a row of cases is 1: no two cases are parted in every way.
STEPS = [begin(4, 0)] + adds([0, 1, 3, 7, 15])
DIFFER_ON_ONE = [begin(4, 0), add(5), add(7)]
FULL = [begin(8, 0)] + adds([low + 16 * low for low in range(16)])


class Ways(unittest.TestCase):
    def test_as_they_first_come_each_once(self):
        before = [begin(4, 0)] + adds([12, 5, 9, 13, 6, 2])
        self.assertEqual(ask_behind(before, ways(3), ways(12), ways(8)),
                         [[3, 0, 1, 2], [4, 12, 4, 8, 0], [2, 8, 0]])

    def test_not_rising_but_by_the_guesses(self):
        self.assertEqual(ask_behind([begin(3, 0)] + adds([7, 0, 4]), ways(7), ways(3)), [[3, 7, 0, 4], [2, 3, 0]])

    def test_no_guesses(self):
        self.assertEqual(ask_behind(NONE, ways(0), ways(5), ways(7)), [[0], [0], [0]])

    def test_a_set_of_nothing(self):
        self.assertEqual(ask_behind(ONE, ways(0)), [[1, 0]])
        self.assertEqual(ask_behind(ALL_OF_THREE, ways(0)), [[1, 0]])

    def test_a_set_of_all(self):
        self.assertEqual(ask_behind(ALL_OF_THREE, ways(7)), [[8, 0, 1, 2, 3, 4, 5, 6, 7]])
        self.assertEqual(ask_behind(FULL, ways(255)), [[16] + [low + 16 * low for low in range(16)]])

    def test_after_a_drop(self):
        self.assertEqual(ask_behind([begin(2, 0)] + adds([1, 3, 2]), ways(1), drop(0), ways(1)), [[2, 1, 0], [2], [2, 1, 0]])
        self.assertEqual(ask_behind([begin(2, 0)] + adds([1, 2]), ways(1), drop(0), ways(1)), [[2, 1, 0], [1], [1, 0]])

    def test_the_truth_is_no_matter(self):
        self.assertEqual(ask_behind(ONE, ways(7), truth(0), ways(7)), [[1, 6], [5], [1, 6]])

    def test_other_cases(self):
        self.assertEqual(ask_behind(ONE, ways(8), ways(15), ways(BIG), ways(7)), [[-22], [-22], [-22], [1, 6]])
        self.assertEqual(ask_behind(FULL, ways(256)), [[-22]])


class Every(unittest.TestCase):
    def test_no_guesses(self):
        # Even the set of nothing has one set of what's in it, and no guess tells that one.
        self.assertEqual(ask_behind(NONE, every(0), every(1), every(7)), [[0], [0], [0]])

    def test_one(self):
        self.assertEqual(ask_behind(ONE, every(0), every(1), every(7)), [[1], [0], [0]])

    def test_all_sets_of_three_cases(self):
        self.assertEqual(ask_behind(ALL_OF_THREE, *[every(s) for s in range(8)]), [[1]] * 8)

    def test_all_but_one(self):
        self.assertEqual(ask_behind(ALL_OF_THREE, drop(3), *[every(s) for s in range(8)]), [[7]] + [[1]] * 7 + [[0]])

    def test_two_that_differ_on_one_case(self):
        self.assertEqual(ask_behind(DIFFER_ON_ONE, every(1), every(2), every(3), every(15)), [[0], [1], [0], [0]])

    def test_one_case(self):
        self.assertEqual(ask_behind([begin(1, 0), add(1)], every(1), add(0), every(1)), [[0], [1], [1]])

    def test_eight_cases(self):
        self.assertEqual(ask_behind(FULL, every(15), every(240), every(17), every(31), every(255), every(0x96)),
                         [[1], [1], [0], [0], [0], [1]])

    def test_other_cases(self):
        self.assertEqual(ask_behind(ONE, every(8), every(BIG)), [[-22], [-22]])
        self.assertEqual(ask_behind(FULL, every(256)), [[-22]])


class Parted(unittest.TestCase):
    def test_how_many_sets_then_how_many_ways(self):
        before = [begin(4, 0)] + adds([12, 5, 9, 13, 6, 2])
        self.assertEqual(ask_behind(before, parted(3), parted(12), parted(8), parted(15)),
                         [[4, 3], [4, 4], [2, 2], [16, 6]])

    def test_no_guesses(self):
        self.assertEqual(ask_behind(NONE, parted(0), parted(5), parted(7)), [[1, 0], [4, 0], [8, 0]])

    def test_one(self):
        self.assertEqual(ask_behind(ONE, parted(0), parted(4), parted(7)), [[1, 1], [2, 1], [8, 1]])

    def test_all_sets_of_three_cases(self):
        self.assertEqual(ask_behind(ALL_OF_THREE, *[parted(s) for s in [0, 4, 5, 7]]), [[1, 1], [2, 2], [4, 4], [8, 8]])

    def test_two_that_differ_on_one_case(self):
        self.assertEqual(ask_behind(DIFFER_ON_ONE, parted(2), parted(13), parted(15)), [[2, 2], [8, 1], [16, 2]])

    def test_one_case(self):
        self.assertEqual(ask_behind([begin(1, 0), add(1)], parted(1), add(0), parted(1), parted(0)),
                         [[2, 1], [1], [2, 2], [1, 1]])

    def test_eight_cases(self):
        self.assertEqual(ask_behind(FULL, parted(255), parted(15), parted(17), parted(128)),
                         [[256, 16], [16, 16], [4, 2], [2, 2]])

    def test_other_cases(self):
        self.assertEqual(ask_behind(ONE, parted(8), parted(BIG), parted(7)), [[-22], [-22], [8, 1]])
        self.assertEqual(ask_behind(FULL, parted(256)), [[-22]])


class Growth(unittest.TestCase):
    def test_no_guesses(self):
        self.assertEqual(ask_behind(NONE, growth(0), growth(1), growth(3)), [[0], [0], [0]])

    def test_one(self):
        self.assertEqual(ask_behind(ONE, growth(0), growth(1), growth(3)), [[1], [1], [1]])

    def test_all_sets_of_three_cases(self):
        self.assertEqual(ask_behind(ALL_OF_THREE, *[growth(k) for k in range(4)]), [[1], [2], [4], [8]])

    def test_steps(self):
        self.assertEqual(ask_behind(STEPS, *[growth(k) for k in range(5)]), [[1], [2], [3], [4], [5]])

    def test_at_most_and_not_at_least(self):
        # Case 2 is never parted; cases 0 and 1 are, in three ways.
        before = [begin(3, 0)] + adds([0, 1, 3])
        self.assertEqual(ask_behind(before, growth(1), growth(2), growth(3)), [[2], [3], [3]])

    def test_sets_of_k_cases_alone(self):
        # Of 16 guesses four cases tell all, three no more than eight.
        self.assertEqual(ask_behind(FULL, *[growth(k) for k in range(9)]),
                         [[1], [2], [4], [8], [16], [16], [16], [16], [16]])

    def test_fewer_cases(self):
        self.assertEqual(ask_behind(ONE, growth(3), growth(4), growth(8), growth(BIG)), [[1], [-22], [-22], [-22]])
        self.assertEqual(ask_behind(NONE, growth(4)), [[-22]])
        self.assertEqual(ask_behind(FULL, growth(9)), [[-22]])


class DepthAndDeep(unittest.TestCase):
    def test_no_guesses(self):
        self.assertEqual(ask_behind(NONE, depth(), deep()), [[-6], [-6]])
        self.assertEqual(ask_behind(ONE, drop(0), depth(), deep()), [[0], [-6], [-6]])

    def test_one(self):
        self.assertEqual(ask_behind(ONE, depth(), deep()), [[0], [1, 0]])

    def test_all_sets_of_three_cases(self):
        self.assertEqual(ask_behind(ALL_OF_THREE, depth(), deep()), [[3], [1, 7]])

    def test_all_but_one(self):
        self.assertEqual(ask_behind(ALL_OF_THREE, drop(3), depth(), deep()), [[7], [2], [3, 3, 5, 6]])

    def test_two_that_differ_on_one_case(self):
        self.assertEqual(ask_behind(DIFFER_ON_ONE, depth(), deep()), [[1], [1, 2]])

    def test_two_that_differ_on_all(self):
        self.assertEqual(ask_behind([begin(8, 0), add(85), add(170)], depth(), deep()),
                         [[1], [8, 1, 2, 4, 8, 16, 32, 64, 128]])

    def test_steps(self):
        self.assertEqual(ask_behind(STEPS, depth(), deep()), [[1], [4, 1, 2, 4, 8]])

    def test_one_case(self):
        self.assertEqual(ask_behind([begin(1, 0), add(0)], depth(), deep(), add(1), depth(), deep()),
                         [[0], [1, 0], [1], [1], [1, 1]])

    def test_16_guesses_of_eight_cases(self):
        # One of each pair of cases n and n + 4, which every guess says alike.
        self.assertEqual(ask_behind(FULL, depth(), deep()), [
            [4], [16, 15, 30, 45, 60, 75, 90, 105, 120, 135, 150, 165, 180, 195, 210, 225, 240]])

    def test_rising_whatever_order_the_guesses_have(self):
        before = [begin(3, 0)] + adds([4, 2, 0, 1])
        self.assertEqual(ask_behind(before, depth(), deep()), [[1], [3, 1, 2, 4]])
        self.assertEqual(ask_behind(before, add(7), depth(), deep()), [[4], [2], [3, 3, 5, 6]])


class FewWays(unittest.TestCase):
    def test_at_most_d_things_of_n(self):
        self.assertEqual(ask_behind(NONE, few_ways(5, 0), few_ways(5, 1), few_ways(5, 2), few_ways(5, 5), few_ways(6, 2)),
                         [[1], [6], [16], [32], [22]])

    def test_nothing(self):
        self.assertEqual(ask_behind(NONE, few_ways(0, 0), few_ways(0, 1), few_ways(0, 40), few_ways(40, 0)),
                         [[1], [1], [1], [1]])

    def test_d_above_n(self):
        self.assertEqual(ask_behind(NONE, few_ways(3, 4), few_ways(3, 40), few_ways(39, 40), few_ways(1, 2)),
                         [[8], [8], [2 ** 39], [2]])

    def test_40(self):
        self.assertEqual(ask_behind(NONE, few_ways(40, 40), few_ways(40, 39), few_ways(40, 1), few_ways(40, 20)),
                         [[2 ** 40], [2 ** 40 - 1], [41], [(2 ** 40 + math.comb(40, 20)) // 2]])

    def test_each_n_and_d(self):
        for n in range(41):
            self.assertEqual(ask_behind(NONE, *[few_ways(n, d) for d in range(41)]),
                             [[sum(math.comb(n, size) for size in range(d + 1))] for d in range(41)])

    def test_above_40(self):
        for n, d in [(41, 0), (0, 41), (41, 41), (41, 40), (40, 41), (BIG, 0), (0, BIG), (BIG, BIG)]:
            with self.subTest(n=n, d=d):
                self.assertEqual(ask_behind(NONE, few_ways(n, d)), [[-22]])

    def test_cases_and_guesses_are_no_matter(self):
        self.assertEqual(ask_behind([begin(1, 0), add(1)], few_ways(12, 3)), [[299]])
        self.assertEqual(ask_behind(FULL, few_ways(12, 3)), [[299]])


class LookingChangesNothing(unittest.TestCase):
    def test_looked_at_twice(self):
        looks = [ways(7), every(7), growth(2), depth(), deep(), ways(5), every(0), growth(3), parted(7), few_ways(9, 2)]
        for before in [NONE, ONE, ALL_OF_THREE]:
            with self.subTest(before=before):
                told = ask_behind(before, *looks, *looks)
                self.assertEqual(told[:len(looks)], told[len(looks):])


if __name__ == "__main__":
    unittest.main()

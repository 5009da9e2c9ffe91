"""Answers beside those of a slow telling in Python's own sets, for many guesses, and what holds of them."""

import itertools
import math
import unittest

from calling import add, adds, ask, ask_behind, begin, best, deep, depth, drop, every, growth, guess, ways, wrong


def as_set(number):
    return frozenset(case for case in range(8) if number // 2 ** case % 2 == 1)


def as_number(cases):
    return sum(2 ** case for case in cases)


def subsets(cases):
    for size in range(len(cases) + 1):
        yield from (frozenset(chosen) for chosen in itertools.combinations(sorted(cases), size))


def plain_ways(guesses, s):
    return list(dict.fromkeys(as_set(one) & s for one in guesses))


def plain_every(guesses, s):
    return set(plain_ways(guesses, s)) == set(subsets(s))


def plain_wrong(true_ones, one):
    return as_set(one).symmetric_difference(as_set(true_ones))


def plain_best(true_ones, guesses):
    if not guesses:
        return [-6]
    return min([[i, len(plain_wrong(true_ones, one))] for i, one in enumerate(guesses)], key=lambda pair: pair[1])


def plain_growth(guesses, cases, k):
    return max(len(plain_ways(guesses, frozenset(s))) for s in itertools.combinations(range(cases), k))


def plain_deep(guesses, cases):
    if not guesses:
        return [-6], [-6]
    parted = [s for s in subsets(range(cases)) if plain_every(guesses, s)]
    most = max(len(s) for s in parted)
    largest = sorted(as_number(s) for s in parted if len(s) == most)
    return [most], [len(largest)] + largest


def spread(seed, cases, many):
    """Guesses that look strewn, the same ones each time; some may be alike."""
    stride = 2 * (seed * 37 % 64) + 1
    return [(seed * 101 + stride * step * (2 * step + 1)) % 2 ** cases for step in range(many)]


class BesidePlainSets(unittest.TestCase):
    def check_wrong(self, cases, true_ones, guesses):
        before = [begin(cases, true_ones)] + adds(guesses)
        told = ask_behind(before, best(), *[call(i) for i in range(len(guesses)) for call in (guess, wrong)])
        expected = [plain_best(true_ones, guesses)]
        for one in guesses:
            off = plain_wrong(true_ones, one)
            expected += [[one], [len(off), as_number(off)]]
        self.assertEqual(told, expected)

    def check_sets(self, before, guesses, some):
        told = ask_behind(before, *[call(s) for s in some for call in (ways, every)])
        expected = []
        for s in some:
            found = [as_number(way) for way in plain_ways(guesses, as_set(s))]
            expected += [[len(found)] + found, [1 if plain_every(guesses, as_set(s)) else 0]]
        self.assertEqual(told, expected)

    def check_depth(self, before, cases, guesses):
        told = ask_behind(before, depth(), deep(), *[growth(k) for k in range(cases + 1)])
        most, largest = plain_deep(guesses, cases)
        self.assertEqual(told, [most, largest] + [[plain_growth(guesses, cases, k)] for k in range(cases + 1)])

    def test_all_guesses_of_three_cases(self):
        for family in range(256):
            chosen = sorted(as_set(family), key=lambda one: (one * 5 + family) % 8)
            with self.subTest(guesses=chosen):
                before = [begin(3, family % 8)] + adds(chosen)
                self.check_wrong(3, family % 8, chosen)
                self.check_sets(before, chosen, list(range(8)))
                self.check_depth(before, 3, chosen)

    def test_strewn_guesses(self):
        for seed in range(60):
            cases, many = 4 + seed % 5, 1 + seed * 7 % 16
            chosen = list(dict.fromkeys(spread(seed, cases, many)))
            with self.subTest(cases=cases, guesses=chosen):
                true_ones = seed * 29 % 2 ** cases
                before = [begin(cases, true_ones)] + adds(chosen)
                self.check_wrong(cases, true_ones, chosen)
                self.check_sets(before, chosen, [(seed + 11 * step) % 2 ** cases for step in range(20)])
                self.check_depth(before, cases, chosen)

    def test_drops_beside_a_plain_list(self):
        for seed in range(40):
            kept = list(dict.fromkeys(spread(seed, 8, 16)))
            before = [begin(8, 0)] + adds(kept)
            calls, expected = [], []
            for step in range(4):
                i = (seed + 3 * step) % (len(kept) + 2)
                calls.append(drop(i))
                if i < len(kept):
                    kept.pop(i)
                    expected.append([len(kept)])
                else:
                    expected.append([-2])
            calls += [guess(i) for i in range(len(kept) + 1)]
            expected += [[one] for one in kept] + [[-2]]
            with self.subTest(seed=seed):
                self.assertEqual(ask_behind(before, *calls), expected)


class WhatHolds(unittest.TestCase):
    def families(self):
        for seed in range(1, 60):
            cases = 1 + seed % 5
            yield cases, list(dict.fromkeys(spread(seed, cases, 1 + seed * 5 % 16)))

    def test_no_more_ways_than_so_few(self):
        for cases, chosen in self.families():
            told = ask_behind([begin(cases, 0)] + adds(chosen), depth(), *[growth(k) for k in range(cases + 1)])
            for k in range(cases + 1):
                self.assertLessEqual(told[1 + k][0], sum(math.comb(k, size) for size in range(told[0][0] + 1)))

    def test_as_many_as_parted(self):
        for cases, chosen in self.families():
            told = ask_behind([begin(cases, 0)] + adds(chosen), *[every(s) for s in range(2 ** cases)])
            self.assertGreaterEqual(told.count([1]), len(chosen))

    def test_what_is_refused_and_looking_changes_nothing(self):
        looks = [best(), ways(11), depth(), deep(), growth(3), every(3), wrong(0), guess(1)]
        refused = [begin(0, 0), begin(4, 16), add(16), add(6), drop(2), [3, 16], guess(2), wrong(2), ways(16), every(16),
                   growth(5)]
        told = ask(begin(4, 9), add(6), add(3), *looks, *refused, *looks)[3:]
        self.assertEqual(told[:len(looks)], told[-len(looks):])
        self.assertTrue(all(len(each) == 1 and each[0] < 0 for each in told[len(looks):-len(looks)]))


if __name__ == "__main__":
    unittest.main()

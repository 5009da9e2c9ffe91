"""Answers beside those of a slow telling in Python's own sets, for many guesses."""

import unittest

from calling import adds, ask_behind, begin, best, deep, depth, drop, every, growth, guess, ways, wrong
from plain import as_number, as_set, plain_best, plain_deep, plain_every, plain_growth, plain_ways, plain_wrong


def spread(seed, cases, many):
    """Guesses that look strewn, the same ones each time; some may be alike."""
    stride = 2 * (seed * 37 % 64) + 1
    return [(seed * 101 + stride * step * (2 * step + 1)) % 2 ** cases for step in range(many)]


class BesidePlainSets(unittest.TestCase):
    def check_wrong(self, cases, true_ones, guesses):
        before = [begin(cases, true_ones)] + adds(guesses)
        told = ask_behind(before, best(), *[call(i) for i in range(len(guesses)) for call in (guess, wrong)])
        expected = [plain_best(true_ones, guesses)]
        for one in guesses:
            off = plain_wrong(true_ones, one)
            expected += [[one], [len(off), as_number(off)]]
        self.assertEqual(told, expected)

    def check_sets(self, before, guesses, some):
        told = ask_behind(before, *[call(s) for s in some for call in (ways, every)])
        expected = []
        for s in some:
            found = [as_number(way) for way in plain_ways(guesses, as_set(s))]
            expected += [[len(found)] + found, [1 if plain_every(guesses, as_set(s)) else 0]]
        self.assertEqual(told, expected)

    def check_depth(self, before, cases, guesses):
        told = ask_behind(before, depth(), deep(), *[growth(k) for k in range(cases + 1)])
        most, largest = plain_deep(guesses, cases)
        self.assertEqual(told, [most, largest] + [[plain_growth(guesses, cases, k)] for k in range(cases + 1)])

    def test_all_guesses_of_three_cases(self):
        for family in range(256):
            chosen = sorted(as_set(family), key=lambda one: (one * 5 + family) % 8)
            with self.subTest(guesses=chosen):
                before = [begin(3, family % 8)] + adds(chosen)
                self.check_wrong(3, family % 8, chosen)
                self.check_sets(before, chosen, list(range(8)))
                self.check_depth(before, 3, chosen)

    def test_strewn_guesses(self):
        for seed in range(60):
            cases, many = 4 + seed % 5, 1 + seed * 7 % 16
            chosen = list(dict.fromkeys(spread(seed, cases, many)))
            with self.subTest(cases=cases, guesses=chosen):
                true_ones = seed * 29 % 2 ** cases
                before = [begin(cases, true_ones)] + adds(chosen)
                self.check_wrong(cases, true_ones, chosen)
                self.check_sets(before, chosen, [(seed + 11 * step) % 2 ** cases for step in range(20)])
                self.check_depth(before, cases, chosen)

    def test_drops_beside_a_plain_list(self):
        for seed in range(40):
            kept = list(dict.fromkeys(spread(seed, 8, 16)))
            before = [begin(8, 0)] + adds(kept)
            calls, expected = [], []
            for step in range(4):
                i = (seed + 3 * step) % (len(kept) + 2)
                calls.append(drop(i))
                if i < len(kept):
                    kept.pop(i)
                    expected.append([len(kept)])
                else:
                    expected.append([-2])
            calls += [guess(i) for i in range(len(kept) + 1)]
            expected += [[one] for one in kept] + [[-2]]
            with self.subTest(seed=seed):
                self.assertEqual(ask_behind(before, *calls), expected)


if __name__ == "__main__":
    unittest.main()

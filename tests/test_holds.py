"""'What holds', a to e, over objects drawn with a fixed seed."""

import random
import unittest

from calling import add, ask, ask_behind, begin, best, by_one, deep, depth, drop, enough, every, few_ways, fit, growth
from calling import guess, hardest, misleading, misleads, parted, tells, told, truth, ways, worst, wrong
from drawing import LOOKS, begun, draw_call, draw_object


def objects(seed, many, least=0):
    """Drawn objects of at least so many guesses: the calls that make each, its cases, its truth and its guesses."""
    draw = random.Random(seed)
    made = 0
    while made < many:
        cases, true_ones, guesses = draw_object(draw)
        if len(guesses) >= least:
            made += 1
            yield begun(cases, true_ones, guesses), cases, true_ones, guesses


def asked(before, calls):
    """The answers to however many calls, each time on an object made anew, as a list holds no more than 60."""
    each = []
    for start in range(0, len(calls), 40):
        each += ask_behind(before, *calls[start:start + 40])
    return each


class A(unittest.TestCase):
    def test_no_more_ways_than_so_few(self):
        for before, cases, true_ones, guesses in objects(1, 80, least=1):
            deepest = ask_behind(before, depth())[0][0]
            for d in range(deepest, cases + 1):
                for k in range(cases + 1):
                    grown, few = ask_behind(before, growth(k), few_ways(k, d))
                    self.assertLessEqual(grown[0], few[0], (before, k, d))

    def test_of_each_set_no_more_ways_than_so_few(self):
        for before, cases, true_ones, guesses in objects(2, 30, least=1):
            deepest = ask_behind(before, depth())[0][0]
            for s, counts in enumerate(asked(before, [parted(s) for s in range(2 ** cases)])):
                few = ask_behind(before, few_ways(s.bit_count(), deepest))[0][0]
                self.assertLessEqual(counts[1], few, (before, s))
                self.assertEqual(counts[0], 2 ** s.bit_count())

    def test_as_many_as_parted(self):
        for before, cases, true_ones, guesses in objects(3, 80):
            parted_so = asked(before, [every(s) for s in range(2 ** cases)])
            self.assertGreaterEqual(parted_so.count([1]), len(guesses), before)

    def test_parted_in_every_way_just_if_as_many_ways_as_sets(self):
        for before, cases, true_ones, guesses in objects(4, 20):
            sets = range(2 ** cases)
            both = zip(asked(before, [every(s) for s in sets]), asked(before, [parted(s) for s in sets]), strict=True)
            for is_so, counts in both:
                self.assertEqual(is_so == [1], counts[0] == counts[1])


class B(unittest.TestCase):
    def test_counted_guess_by_guess_it_is_no_fewer(self):
        for before, cases, true_ones, guesses in objects(5, 80):
            pairs = [(k, e) for k in range(cases + 1) for e in range(cases + 2)]
            mislead = asked(before, [misleading(k, e) for k, e in pairs])
            one_by_one = asked(before, [by_one(k, e) for k, e in pairs])
            for (k, e), few, more in zip(pairs, mislead, one_by_one, strict=True):
                self.assertLessEqual(few[0], more[0], (before, k, e))

    def test_counted_sample_by_sample_it_is_as_told(self):
        for before, cases, true_ones, guesses in objects(6, 12):
            for e in range(cases + 2):
                each = asked(before, [misleads(e, s) for s in range(2 ** cases)])
                for k in range(cases + 1):
                    those = [each[s] for s in range(2 ** cases) if s.bit_count() == k]
                    counted = [len(those) - those.count([-33]), len(those)]
                    self.assertEqual(ask_behind(before, misleading(k, e)), [counted], (before, k, e))


class C(unittest.TestCase):
    PARTS = [(0, 1), (1, 1000), (1, 70), (1, 28), (1, 10), (1, 3), (1, 2), (2, 3), (999, 1000), (1, 1)]

    def test_enough_and_of_smaller_ones_more_mislead(self):
        for before, cases, true_ones, guesses in objects(7, 60):
            for e in range(cases + 2):
                counts = ask_behind(before, *[misleading(k, e) for k in range(cases + 1)])
                for p, q in self.PARTS:
                    least = ask_behind(before, enough(e, p, q))[0][0]
                    # -33: none does, so of every number of cases more mislead.
                    smaller = range(cases + 1) if least == -33 else range(least)
                    for k in smaller:
                        self.assertGreater(counts[k][0] * q, counts[k][1] * p, (before, e, p, q))
                    if least != -33:
                        self.assertLessEqual(counts[least][0] * q, counts[least][1] * p, (before, e, p, q))

    def test_larger_samples_mislead_no_greater_part(self):
        for before, cases, true_ones, guesses in objects(8, 80):
            for e in range(cases + 2):
                counts = ask_behind(before, *[misleading(k, e) for k in range(cases + 1)])
                for smaller, larger in zip(counts, counts[1:]):
                    self.assertLessEqual(larger[0] * smaller[1], smaller[0] * larger[1], (before, e))

    def test_the_sample_of_all_cases_misleads_by_0_alone(self):
        for before, cases, true_ones, guesses in objects(9, 80):
            first = [guesses.index(true_ones)] if true_ones in guesses else [-33]
            self.assertEqual(ask_behind(before, *[misleads(e, 2 ** cases - 1) for e in range(cases + 2)]),
                             [first] + [[-33]] * (cases + 1))

    def test_the_worst_sample_misleads_by_so_many_and_none_by_more(self):
        for before, cases, true_ones, guesses in objects(10, 60):
            for k in range(cases + 1):
                given = ask_behind(before, worst(k))[0]
                if given == [-33]:
                    self.assertEqual(ask_behind(before, misleading(k, 0))[0][0], 0)
                    continue
                by_it, more = ask_behind(before, misleads(given[1], given[0]), misleading(k, given[1] + 1))
                self.assertGreaterEqual(by_it[0], 0)
                self.assertEqual(more[0], 0)
                self.assertEqual(given[0].bit_count(), k)


class D(unittest.TestCase):
    def ways_differ(self, guesses, i, members):
        return all((one & members) != (guesses[i] & members) for j, one in enumerate(guesses) if j != i)

    def test_told_from_all_others_by_these_and_by_no_fewer(self):
        for before, cases, true_ones, guesses in objects(11, 60, least=1):
            for i in range(len(guesses)):
                many, members = ask_behind(before, tells(i))[0]
                self.assertEqual(members.bit_count(), many)
                self.assertTrue(self.ways_differ(guesses, i, members), (before, i))
                for other in range(2 ** cases):
                    if (other.bit_count(), other) < (many, members):
                        self.assertFalse(self.ways_differ(guesses, i, other), (before, i, other))

    def test_if_the_guess_is_the_truth_it_alone_fits_those(self):
        for before, cases, true_ones, guesses in objects(12, 40, least=1):
            for i, one in enumerate(guesses):
                members = ask_behind(before, tells(i))[0][1]
                self.assertEqual(ask_behind(before + [truth(one)], fit(members)), [[1, i]], before)

    def test_hardest_is_the_first_that_needs_most(self):
        for before, cases, true_ones, guesses in objects(13, 60, least=1):
            counts = [each[0] for each in ask_behind(before, *[tells(i) for i in range(len(guesses))])]
            self.assertEqual(ask_behind(before, hardest()), [[counts.index(max(counts)), max(counts)]], before)


class E(unittest.TestCase):
    def test_looking_changes_nothing(self):
        draw = random.Random(14)
        for before, cases, true_ones, guesses in objects(15, 60):
            looks = [draw_call(draw, number, cases) for number in LOOKS]
            each = ask_behind(before, *looks, told(), *looks, told())
            self.assertEqual(each[:20], each[20:], before)
            self.assertEqual(each[-1], [cases, true_ones, len(guesses)] + guesses)

    def test_what_is_refused_changes_nothing(self):
        draw = random.Random(16)
        seen = set()
        for before, cases, true_ones, guesses in objects(17, 120):
            calls = [draw_call(draw, number, 8) for number in draw.sample(range(23), 20)]
            for call in calls:
                each = ask_behind(before, call, told())
                if each[0][0] < 0:
                    seen.add(each[0][0])
                    self.assertEqual(each, [each[0][:1], [cases, true_ones, len(guesses)] + guesses], (before, call))
        self.assertEqual(seen, {-2, -6, -17, -22, -28, -33})

    def test_looks_behind_refused_calls_are_as_ahead_of_them(self):
        looks = [best(), ways(11), depth(), deep(), growth(3), every(3), wrong(0), guess(1), fit(3), misleads(1, 3),
                 misleading(2, 1), worst(2), by_one(1, 1), enough(1, 1, 2), tells(0), hardest(), parted(11), told()]
        refused = [begin(0, 0), begin(4, 16), add(16), add(6), drop(2), truth(16), guess(2), wrong(2), ways(16), every(16),
                   growth(5), few_ways(41, 41), fit(16), misleads(0, 16), misleads(9, 0), misleading(5, 0), worst(5),
                   by_one(5, 0), enough(0, 2, 1), tells(2), parted(16)]
        each = ask(begin(4, 9), add(6), add(3), *looks, *refused, *looks)[3:]
        self.assertEqual(each[:len(looks)], each[-len(looks):])
        self.assertTrue(all(len(one) == 1 and one[0] < 0 for one in each[len(looks):-len(looks)]))


if __name__ == "__main__":
    unittest.main()

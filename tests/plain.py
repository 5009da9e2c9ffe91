"""A slow telling of the document in Python's own sets, for the tests to hold answers against."""

import fractions
import functools
import itertools
import math


@functools.lru_cache(maxsize=None)
def as_set(number):
    return frozenset(case for case in range(31) if number // 2 ** case % 2 == 1)


def as_number(cases):
    return sum(2 ** case for case in cases)


def samples_of(cases, k):
    return [frozenset(chosen) for chosen in itertools.combinations(range(cases), k)]


def subsets(cases):
    for size in range(len(cases) + 1):
        yield from (frozenset(chosen) for chosen in itertools.combinations(sorted(cases), size))


def plain_ways(guesses, s):
    return list(dict.fromkeys(as_set(one) & s for one in guesses))


def plain_every(guesses, s):
    return set(plain_ways(guesses, s)) == set(subsets(s))


def plain_wrong(true_ones, one):
    return as_set(one).symmetric_difference(as_set(true_ones))


def plain_best(true_ones, guesses):
    if not guesses:
        return [-6]
    return min([[i, len(plain_wrong(true_ones, one))] for i, one in enumerate(guesses)], key=lambda pair: pair[1])


def plain_growth(guesses, cases, k):
    return max(len(plain_ways(guesses, s)) for s in samples_of(cases, k))


def plain_deep(guesses, cases):
    if not guesses:
        return [-6], [-6]
    parted = [s for s in subsets(range(cases)) if plain_every(guesses, s)]
    most = max(len(s) for s in parted)
    largest = sorted(as_number(s) for s in parted if len(s) == most)
    return [most], [len(largest)] + largest


def plain_fits(true_ones, one, sample):
    return all((case in as_set(one)) == (case in as_set(true_ones)) for case in sample)


def plain_misleaders(true_ones, guesses, e, sample):
    return [i for i, one in enumerate(guesses)
            if plain_fits(true_ones, one, sample) and len(plain_wrong(true_ones, one)) >= e]


def plain_part(true_ones, guesses, cases, k, e):
    """How great a part of the samples of k cases misleads by e."""
    samples = samples_of(cases, k)
    return fractions.Fraction(sum(1 for s in samples if plain_misleaders(true_ones, guesses, e, s)), len(samples))


def plain_worst(true_ones, guesses, cases, k):
    found = [(-len(plain_wrong(true_ones, one)), as_number(s))
             for s in samples_of(cases, k) for one in guesses if plain_fits(true_ones, one, s)]
    if not found:
        return [-33]
    wrong, sample = min(found)
    return [sample, -wrong]


def plain_told_apart(guesses, i, members):
    return all(as_set(one) & members != as_set(guesses[i]) & members for j, one in enumerate(guesses) if j != i)


def plain_tells(guesses, cases, i):
    telling = [(len(s), as_number(s)) for s in subsets(range(cases)) if plain_told_apart(guesses, i, s)]
    return list(min(telling))


class Plain:
    """One object: each call is a method that is told its numbers and answers a list."""

    def __init__(self):
        self.begun = False
        self.cases = None
        self.true_ones = None
        self.guesses = None

    def other_cases(self, s, cases=None):
        return any(case >= (self.cases if cases is None else cases) for case in as_set(s))

    def no_such(self, i):
        return i not in range(len(self.guesses))

    def begin(self, cases, truth):
        if cases not in range(1, 9) or self.other_cases(truth, cases):
            return [-22]
        self.begun, self.cases, self.true_ones, self.guesses = True, cases, truth, []
        return [0]

    def add(self, s):
        if self.other_cases(s):
            return [-22]
        if s in self.guesses:
            return [-17]
        if len(self.guesses) >= 16:
            return [-28]
        self.guesses = self.guesses + [s]
        return [len(self.guesses) - 1]

    def drop(self, i):
        if self.no_such(i):
            return [-2]
        self.guesses = [one for j, one in enumerate(self.guesses) if j != i]
        return [len(self.guesses)]

    def truth(self, s):
        if self.other_cases(s):
            return [-22]
        before, self.true_ones = self.true_ones, s
        return [before]

    def guess(self, i):
        return [-2] if self.no_such(i) else [self.guesses[i]]

    def wrong(self, i):
        if self.no_such(i):
            return [-2]
        off = plain_wrong(self.true_ones, self.guesses[i])
        return [len(off), as_number(off)]

    def best(self):
        return plain_best(self.true_ones, self.guesses)

    def ways(self, s):
        if self.other_cases(s):
            return [-22]
        found = [as_number(way) for way in plain_ways(self.guesses, as_set(s))]
        return [len(found)] + found

    def every(self, s):
        return [-22] if self.other_cases(s) else [int(plain_every(self.guesses, as_set(s)))]

    def growth(self, k):
        return [-22] if k > self.cases else [plain_growth(self.guesses, self.cases, k)]

    def depth(self):
        return plain_deep(self.guesses, self.cases)[0]

    def deep(self):
        return plain_deep(self.guesses, self.cases)[1]

    def few_ways(self, n, d):
        return [-22] if n > 40 or d > 40 else [sum(math.comb(n, size) for size in range(d + 1))]

    def fit(self, s):
        if self.other_cases(s):
            return [-22]
        found = [i for i, one in enumerate(self.guesses) if plain_fits(self.true_ones, one, as_set(s))]
        return [len(found)] + found

    def misleads(self, e, s):
        if self.other_cases(s):
            return [-22]
        return (plain_misleaders(self.true_ones, self.guesses, e, as_set(s)) or [-33])[:1]

    def misleading(self, k, e):
        if k > self.cases:
            return [-22]
        samples = samples_of(self.cases, k)
        return [len([s for s in samples if plain_misleaders(self.true_ones, self.guesses, e, s)]), len(samples)]

    def worst(self, k):
        return [-22] if k > self.cases else plain_worst(self.true_ones, self.guesses, self.cases, k)

    def by_one(self, k, e):
        if k > self.cases:
            return [-22]
        return [sum(1 for one in self.guesses for s in samples_of(self.cases, k)
                    if len(plain_wrong(self.true_ones, one)) >= e and plain_fits(self.true_ones, one, s))]

    def enough(self, e, p, q):
        if q not in range(1, 1001) or p > q:
            return [-22]
        parts = [plain_part(self.true_ones, self.guesses, self.cases, k, e) for k in range(self.cases + 1)]
        return [k for k, part in enumerate(parts) if part <= fractions.Fraction(p, q)][:1] or [-33]

    def tells(self, i):
        return [-2] if self.no_such(i) else plain_tells(self.guesses, self.cases, i)

    def hardest(self):
        if not self.guesses:
            return [-6]
        counts = [plain_tells(self.guesses, self.cases, i)[0] for i in range(len(self.guesses))]
        return [counts.index(max(counts)), max(counts)]

    def parted(self, s):
        if self.other_cases(s):
            return [-22]
        return [len(list(subsets(as_set(s)))), len(plain_ways(self.guesses, as_set(s)))]

    def told(self):
        return [self.cases, self.true_ones, len(self.guesses)] + self.guesses


NAMES = """begin add drop truth guess wrong best ways every growth depth deep few_ways fit misleads misleading worst
    by_one enough tells hardest parted told""".split()


def plain_answers(*calls):
    """As calling.ask: a list for each of these calls on one new object."""
    plain = Plain()
    each = []
    for call in calls:
        if plain.begun or call[0] == 0:
            each.append(getattr(plain, NAMES[call[0]])(*call[1:]))
        else:
            each.append([-61])
    return each

"""Lists of calls drawn with a fixed seed, beside the slow telling in Python's own sets."""

import random
import unittest

from calling import adds, ask, begin
from drawing import LETTERS, LOOKS, begun, draw_call, draw_guesses, draw_object
from plain import plain_answers


def draw_list(draw):
    """Up to 60 calls of all kinds: most lists begin at once and hold some adds first."""
    cases = draw.randint(1, 8)
    calls = [draw_call(draw, draw.randrange(len(LETTERS)), cases) for early in range(draw.choice([0, 0, 0, 1, 3]))]
    calls.append(begin(cases, draw.randrange(2 ** cases)))
    calls += adds(draw_guesses(draw, cases, 10))
    while len(calls) < 60 and draw.random() < 0.97:
        # A begin is rare, so that there is something to look at; adds, drops and truths come more often.
        number = draw.choice([1, 1, 2, 3] + LOOKS * 2) if draw.random() < 0.99 else 0
        calls.append(draw_call(draw, number, cases))
    return calls


class Drawn(unittest.TestCase):
    def check(self, calls):
        for call, given, expected in zip(calls, ask(*calls), plain_answers(*calls), strict=True):
            self.assertEqual(given, expected, (call, calls))

    def test_lists_of_all_calls(self):
        draw = random.Random(20261118)
        for drawn in range(150):
            self.check(draw_list(draw))

    def test_looks_of_each_kind_at_drawn_objects(self):
        draw = random.Random(5)
        for drawn in range(60):
            cases, true_ones, guesses = draw_object(draw)
            looks = [draw_call(draw, number, cases) for number in LOOKS * 2]
            self.check(begun(cases, true_ones, guesses) + looks)

    def test_every_family_of_two_cases(self):
        looks = [[13, 2], [14, 1, 1], [15, 1, 1], [16, 1], [16, 2], [17, 1, 1], [18, 1, 0, 1], [18, 1, 1, 2], [18, 0, 0, 1],
                 [19, 0], [19, 1], [19, 2], [20], [21, 3], [22]]
        for family in range(16):
            guesses = [one for one in range(4) if family // 2 ** one % 2 == 1]
            for true_ones in range(4):
                self.check(begun(2, true_ones, guesses) + looks)
                self.check(begun(2, true_ones, guesses[::-1]) + looks)


if __name__ == "__main__":
    unittest.main()

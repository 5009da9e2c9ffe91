"""Objects and calls drawn by a given random.Random, for the tests."""

from calling import BIG, adds, begin

# By the call's number: what it is told.
LETTERS = ["ct", "s", "i", "s", "i", "i", "", "s", "s", "k", "", "", "nd", "s", "es", "ke", "k", "ke", "epq", "i", "",
           "s", ""]
LOOKS = [number for number in range(len(LETTERS)) if number not in (0, 1, 2, 3)]
EDGES = [0, 1, 2, 3, 4, 7, 8, 9, 15, 16, 17, 31, 32, 40, 41, 255, 256, 999, 1000, 1001, 2 ** 30, BIG - 1, BIG]


def draw_guesses(draw, cases, most=16):
    return draw.sample(range(2 ** cases), draw.randint(0, min(most, 2 ** cases)))


def draw_object(draw, most=16):
    """How many cases, the truth, the guesses; in one of three the truth is among the guesses."""
    cases = draw.randint(1, 8)
    guesses = draw_guesses(draw, cases, most)
    true_ones = draw.choice(guesses) if guesses and draw.random() < 0.34 else draw.randrange(2 ** cases)
    return cases, true_ones, guesses


def begun(cases, true_ones, guesses):
    return [begin(cases, true_ones)] + adds(guesses)


def draw_number(draw, letter, cases):
    """Most often one that is as told for so many cases, else an edge of some kind."""
    if draw.random() < 0.08:
        return draw.choice(EDGES)
    if letter == "c":
        return draw.randint(1, 8)
    if letter in "ts":
        return draw.randrange(2 ** cases)
    if letter in "nd":
        return draw.randint(0, 40)
    if letter == "q":
        return draw.choice([1, 2, 3, 6, 28, 70, 1000, draw.randint(1, 1000)])
    if letter == "p":
        return draw.choice([0, 0, 1, 2, 5, draw.randint(0, 70)])
    if letter == "i":
        return draw.randint(0, 16)
    return draw.randint(0, cases + 1)


def draw_call(draw, number, cases):
    return [number] + [draw_number(draw, letter, cases) for letter in LETTERS[number]]

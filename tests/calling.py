"""The calls by their names, and answers told call by call, for the tests."""

from partedcases.guesses import answers

BIG = 2147483647


def begin(cases, truth):
    return [0, cases, truth]


def add(s):
    return [1, s]


def drop(i):
    return [2, i]


def truth(s):
    return [3, s]


def guess(i):
    return [4, i]


def wrong(i):
    return [5, i]


def best():
    return [6]


def ways(s):
    return [7, s]


def every(s):
    return [8, s]


def growth(k):
    return [9, k]


def depth():
    return [10]


def deep():
    return [11]


def few_ways(n, d):
    return [12, n, d]


def fit(s):
    return [13, s]


def misleads(e, s):
    return [14, e, s]


def misleading(k, e):
    return [15, k, e]


def worst(k):
    return [16, k]


def by_one(k, e):
    return [17, k, e]


def enough(e, p, q):
    return [18, e, p, q]


def tells(i):
    return [19, i]


def hardest():
    return [20]


def parted(s):
    return [21, s]


def told():
    return [22]


def adds(guesses):
    return [add(one) for one in guesses]


def told_apart(numbers):
    """The flat list that answers gives back, as a list for each call."""
    each = []
    place = 0
    while place < len(numbers):
        behind = place + 1 + numbers[place]
        assert numbers[place] >= 1 and behind <= len(numbers), numbers
        each.append(numbers[place + 1:behind])
        place = behind
    return each


def ask(*calls):
    """The answers to these calls on one new object, one list each."""
    line = [number for call in calls for number in call]
    assert 1 <= len(calls) <= 60 and len(line) <= 240
    each = told_apart(answers(line))
    assert len(each) == len(calls), each
    return each


def ask_behind(before, *calls):
    """The same, without the answers to the calls before."""
    return ask(*before, *calls)[len(before):]

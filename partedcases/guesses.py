"""Guesses of some cases: how wrong they are, in how many ways they part sets of cases,
which samples mislead, and which cases tell a guess from all others.

A set of cases is a whole number: 2 to the power of each one's number, together.
Each answer is a list of whole numbers; a refusal is one number alone, below 0.
"""

# Kept without their sign: a refusal is answered as -NUMBER.
NO_SUCH_GUESS = 2
NO_GUESSES = 6
ALIKE = 17
NOT_AS_TOLD = 22
FULL = 28
NONE_DOES = 33
NOT_BEGUN = 61

MOST_CASES = 8
MOST_GUESSES = 16
MOST_THINGS = 40
MOST_PARTS = 1000
BEGIN = 0


class State:
    def __init__(self):
        # A begin never leaves 0 cases, so 0 says that none was answered 0 yet.
        self.cases = 0
        self.truth = 0
        self.guesses = []


def holds_others(members, cases):
    return (members >> cases) != 0


def size_of(members):
    return sum([(members >> place) & 1 for place in range(members.bit_length())])


def all_sets(cases):
    return list(range(1 << cases))


def sets_of_size(cases, size):
    return [members for members in all_sets(cases) if size_of(members) == size]


def how_many_sets(things, size):
    count = 1
    for chosen in range(size):
        # Always a whole number: each set of one more is counted once for each thing in it.
        count = count * (things - chosen) // (chosen + 1)
    return count


def ways_parted(guesses, members):
    found = []
    for guess in guesses:
        way = guess & members
        if way not in found:
            found.append(way)
    return found


def parted_in_every_way(guesses, members):
    # Each way is a set of what's in members, and none stands twice: as many as there are, so all.
    return len(ways_parted(guesses, members)) == (1 << size_of(members))


def depth_of(guesses, cases):
    # With a guess the set of nothing is always parted in every way, so there is a largest.
    return max([size_of(members) for members in all_sets(cases) if parted_in_every_way(guesses, members)])


def wrong_sets(state):
    return [guess ^ state.truth for guess in state.guesses]


def wrong_on_at_least(state, e):
    return [wrong for wrong in wrong_sets(state) if size_of(wrong) >= e]


def fitting(wrongs, sample):
    return [i for i in range(len(wrongs)) if (wrongs[i] & sample) == 0]


def misleading_samples(state, k, e):
    wrongs = wrong_on_at_least(state, e)
    return [sample for sample in sets_of_size(state.cases, k) if len(fitting(wrongs, sample)) > 0]


def most_wrong(wrongs, sample):
    return max([size_of(wrongs[i]) for i in fitting(wrongs, sample)])


def tells_from_all(differences, members):
    return all([(difference & members) != 0 for difference in differences])


def telling_cases(state, i):
    differences = [guess ^ state.guesses[i] for guess in state.guesses if guess != state.guesses[i]]
    # No two guesses are alike, so the set of all cases always tells.
    telling = [members for members in all_sets(state.cases) if tells_from_all(differences, members)]
    # The sets rise, and of like ones the first is taken: the one with the least number.
    return min(telling, key=size_of)


def answer_begin(state, cases, truth):
    if cases < 1 or cases > MOST_CASES or holds_others(truth, cases):
        return [-NOT_AS_TOLD]
    state.cases = cases
    state.truth = truth
    state.guesses = []
    return [0]


def answer_add(state, s):
    if s in state.guesses:
        return [-ALIKE]
    if len(state.guesses) == MOST_GUESSES:
        return [-FULL]
    state.guesses.append(s)
    return [len(state.guesses) - 1]


def answer_drop(state, i):
    state.guesses.pop(i)
    return [len(state.guesses)]


def answer_truth(state, s):
    before = state.truth
    state.truth = s
    return [before]


def answer_guess(state, i):
    return [state.guesses[i]]


def answer_wrong(state, i):
    wrong = state.guesses[i] ^ state.truth
    return [size_of(wrong), wrong]


def answer_best(state):
    if len(state.guesses) == 0:
        return [-NO_GUESSES]
    counts = [size_of(wrong) for wrong in wrong_sets(state)]
    fewest = min(counts)
    return [counts.index(fewest), fewest]


def answer_ways(state, s):
    ways = ways_parted(state.guesses, s)
    return [len(ways)] + ways


def answer_every(state, s):
    return [1 if parted_in_every_way(state.guesses, s) else 0]


def answer_growth(state, k):
    return [max([len(ways_parted(state.guesses, members)) for members in sets_of_size(state.cases, k)])]


def answer_depth(state):
    if len(state.guesses) == 0:
        return [-NO_GUESSES]
    return [depth_of(state.guesses, state.cases)]


def answer_deep(state):
    if len(state.guesses) == 0:
        return [-NO_GUESSES]
    candidates = sets_of_size(state.cases, depth_of(state.guesses, state.cases))
    deepest = [members for members in candidates if parted_in_every_way(state.guesses, members)]
    return [len(deepest)] + deepest


def answer_few_ways(state, n, d):
    if n > MOST_THINGS or d > MOST_THINGS:
        return [-NOT_AS_TOLD]
    return [sum([how_many_sets(n, size) for size in range(d + 1)])]


def answer_fit(state, s):
    fit = fitting(wrong_sets(state), s)
    return [len(fit)] + fit


def answer_misleads(state, e, s):
    wrongs = wrong_sets(state)
    misleaders = [i for i in fitting(wrongs, s) if size_of(wrongs[i]) >= e]
    if len(misleaders) == 0:
        return [-NONE_DOES]
    return [misleaders[0]]


def answer_misleading(state, k, e):
    return [len(misleading_samples(state, k, e)), how_many_sets(state.cases, k)]


def answer_worst(state, k):
    wrongs = wrong_sets(state)
    # Every guess is wrong on 0 or more: by 0 just those samples mislead that a guess fits.
    samples = misleading_samples(state, k, 0)
    if len(samples) == 0:
        return [-NONE_DOES]
    counts = [most_wrong(wrongs, sample) for sample in samples]
    most = max(counts)
    return [samples[counts.index(most)], most]


def answer_by_one(state, k, e):
    # A guess fits just the samples of cases on which it's right.
    return [sum([how_many_sets(state.cases - size_of(wrong), k) for wrong in wrong_on_at_least(state, e)])]


def answer_enough(state, e, p, q):
    if q < 1 or q > MOST_PARTS or p > q:
        return [-NOT_AS_TOLD]
    for k in range(state.cases + 1):
        if len(misleading_samples(state, k, e)) * q <= how_many_sets(state.cases, k) * p:
            return [k]
    return [-NONE_DOES]


def answer_tells(state, i):
    telling = telling_cases(state, i)
    return [size_of(telling), telling]


def answer_hardest(state):
    if len(state.guesses) == 0:
        return [-NO_GUESSES]
    counts = [size_of(telling_cases(state, i)) for i in range(len(state.guesses))]
    most = max(counts)
    return [counts.index(most), most]


def answer_parted(state, s):
    return [1 << size_of(s), len(ways_parted(state.guesses, s))]


def answer_told(state):
    return [state.cases, state.truth, len(state.guesses)] + state.guesses


# By the call's number: what answers it, and what it is told. The letters s, i and k
# bear the refusals that hold wherever such a one is told.
CALLS = (
    (answer_begin, ("cases", "truth")),
    (answer_add, ("s",)),
    (answer_drop, ("i",)),
    (answer_truth, ("s",)),
    (answer_guess, ("i",)),
    (answer_wrong, ("i",)),
    (answer_best, ()),
    (answer_ways, ("s",)),
    (answer_every, ("s",)),
    (answer_growth, ("k",)),
    (answer_depth, ()),
    (answer_deep, ()),
    (answer_few_ways, ("n", "d")),
    (answer_fit, ("s",)),
    (answer_misleads, ("e", "s")),
    (answer_misleading, ("k", "e")),
    (answer_worst, ("k",)),
    (answer_by_one, ("k", "e")),
    (answer_enough, ("e", "p", "q")),
    (answer_tells, ("i",)),
    (answer_hardest, ()),
    (answer_parted, ("s",)),
    (answer_told, ()),
)


def refusal_of(state, letter, number):
    if letter == "s" and holds_others(number, state.cases):
        return NOT_AS_TOLD
    if letter == "i" and number >= len(state.guesses):
        return NO_SUCH_GUESS
    if letter == "k" and number > state.cases:
        return NOT_AS_TOLD
    return 0


def answer(state, call, given):
    if call != BEGIN and state.cases == 0:
        return [-NOT_BEGUN]
    for letter, number in zip(CALLS[call][1], given):
        refusal = refusal_of(state, letter, number)
        if refusal != 0:
            return [-refusal]
    if len(given) == 0:
        return CALLS[call][0](state)
    if len(given) == 1:
        return CALLS[call][0](state, given[0])
    if len(given) == 2:
        return CALLS[call][0](state, given[0], given[1])
    return CALLS[call][0](state, given[0], given[1], given[2])


def answers(calls):
    state = State()
    given_back = []
    place = 0
    while place < len(calls):
        call = calls[place]
        behind = place + 1 + len(CALLS[call][1])
        numbers = answer(state, call, calls[place + 1:behind])
        given_back.append(len(numbers))
        given_back.extend(numbers)
        place = behind
    return given_back

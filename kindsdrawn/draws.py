"""The calls on a few kinds with weights: one list of calls in, one list of their answers out."""

from kindsdrawn.chances import chance_both, chance_of_count, chance_seen, draws_needed, even_mean
from kindsdrawn.chances import likeliest_count, mean_added, mean_count, rows_by_count

NOT_BEGUN = -11
NO_KINDS = -6
NO_SUCH_KIND = -2
NOT_ALLOWED = -22
NO_ROOM = -28
NOT_TO_BE_HAD = -33

MOST_KINDS = 6
MOST_WEIGHT = 20
MOST_DRAWS = 12
MOST_DRAWS_NEEDED = 399
MOST_ABOVE = 100
MOST_BELOW = 100

BEGIN = 0
KIND = 1
WEIGHT = 2
OUT = 3
CHANCE = 4
ALL = 5
MEAN = 6
ADDS = 7
LIKELIEST = 8
SEEN = 9
EVEN = 10
BOTH = 11
NEEDED = 12
LEVEL = 13
WOULD = 14
MOST = 15
TOLD = 16

# By a call's number.
ARGUMENT_COUNTS = (0, 1, 2, 1, 2, 1, 1, 1, 1, 2, 1, 3, 2, 2, 3, 1, 0)


def is_weight(w):
    """Whether a kind may have this weight."""
    return 1 <= w <= MOST_WEIGHT


def pair_refusal(weights, i, j):
    """The number that refuses i and j as two kinds, or 0 where they are."""
    if max(i, j) >= len(weights):
        return NO_SUCH_KIND
    if i == j:
        return NOT_ALLOWED
    return 0


def can_level(weights, i, j):
    """Whether each of the two kinds can have half of what they weigh together."""
    return (weights[i] + weights[j]) % 2 == 0


def leveled(weights, i, j):
    """The weights as they are behind a level of the two kinds; those given stay as they are."""
    half = (weights[i] + weights[j]) // 2
    behind = list(weights)
    behind[i] = half
    behind[j] = half
    return behind


class Kinds:
    """The kinds as their weights, in the order of their numbers; each call gives back the numbers it answers."""

    def __init__(self):
        self.begun = False
        self.weights = []

    def begin(self):
        self.begun = True
        self.weights = []
        return [0]

    def kind(self, w):
        if not is_weight(w):
            return [NOT_ALLOWED]
        if len(self.weights) == MOST_KINDS:
            return [NO_ROOM]
        self.weights.append(w)
        return [len(self.weights) - 1]

    def weight(self, i, w):
        if i >= len(self.weights):
            return [NO_SUCH_KIND]
        if not is_weight(w):
            return [NOT_ALLOWED]
        before = self.weights[i]
        self.weights[i] = w
        return [before]

    def out(self, i):
        if i >= len(self.weights):
            return [NO_SUCH_KIND]
        self.weights.pop(i)
        return [len(self.weights)]

    def level(self, i, j):
        refusal = pair_refusal(self.weights, i, j)
        if refusal < 0:
            return [refusal]
        if not can_level(self.weights, i, j):
            return [NOT_TO_BE_HAD]
        self.weights = leveled(self.weights, i, j)
        return [self.weights[i]]


def answer_seen(weights, i, n):
    if i >= len(weights):
        return [NO_SUCH_KIND]
    if n > MOST_DRAWS:
        return [NOT_ALLOWED]
    return [0] + chance_seen(weights, i, n)


def answer_both(weights, i, j, n):
    refusal = pair_refusal(weights, i, j)
    if refusal < 0:
        return [refusal]
    if n > MOST_DRAWS:
        return [NOT_ALLOWED]
    return [0] + chance_both(weights, i, j, n)


def answer_would(weights, i, j, n):
    refusal = pair_refusal(weights, i, j)
    if refusal < 0:
        return [refusal]
    if n > MOST_DRAWS:
        return [NOT_ALLOWED]
    if not can_level(weights, i, j):
        return [NOT_TO_BE_HAD]
    return [0] + mean_count(leveled(weights, i, j), n)


def answer_needed(weights, a, b):
    if b < 1 or b > MOST_BELOW or a > MOST_ABOVE:
        return [NOT_ALLOWED]
    n = draws_needed(weights, a, b, MOST_DRAWS_NEEDED)
    if n is None:
        return [NOT_TO_BE_HAD]
    return [n]


def answer_of_draws(weights, number, given):
    """What a call from CHANCE to LIKELIEST, or EVEN, answers; the first of its arguments is how many draws."""
    n = given[0]
    if n > MOST_DRAWS:
        return [NOT_ALLOWED]
    if number == CHANCE:
        return [0] + chance_of_count(weights, n, given[1])
    if number == ALL:
        by_count = rows_by_count(weights, n)
        return [len(by_count)] + by_count
    if number == MEAN:
        return [0] + mean_count(weights, n)
    if number == ADDS:
        return [0] + mean_added(weights, n)
    if number == EVEN:
        return [0] + even_mean(weights, n)
    return [likeliest_count(weights, n)]


def answer_of_some_kinds(weights, number, given):
    """What a call answers that only tells of the kinds, where there are some."""
    if number == SEEN:
        return answer_seen(weights, given[0], given[1])
    if number == BOTH:
        return answer_both(weights, given[0], given[1], given[2])
    if number == NEEDED:
        return answer_needed(weights, given[0], given[1])
    if number == WOULD:
        return answer_would(weights, given[0], given[1], given[2])
    if number == MOST:
        return [min(given[0], len(weights))]
    if number == TOLD:
        return [len(weights)] + weights
    return answer_of_draws(weights, number, given)


def answer(kinds, number, given):
    """The numbers that one call answers."""
    if number == BEGIN:
        return kinds.begin()
    if not kinds.begun:
        return [NOT_BEGUN]
    if number == KIND:
        return kinds.kind(given[0])
    if number == WEIGHT:
        return kinds.weight(given[0], given[1])
    if number == OUT:
        return kinds.out(given[0])
    if number == LEVEL:
        return kinds.level(given[0], given[1])
    # All the calls that are left name -6, and it goes ahead of their other refusals.
    if len(kinds.weights) == 0:
        return [NO_KINDS]
    return answer_of_some_kinds(kinds.weights, number, given)


def answers(calls):
    """For each call of the list, in order: how many numbers it answers, then these."""
    kinds = Kinds()
    told = []
    start = 0
    while start < len(calls):
        number = calls[start]
        behind = start + 1 + ARGUMENT_COUNTS[number]
        answered = answer(kinds, number, calls[start + 1:behind])
        told.append(len(answered))
        told.extend(answered)
        start = behind
    return told

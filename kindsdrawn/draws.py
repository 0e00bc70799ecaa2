"""The calls on a few kinds with weights: one list of calls in, one list of their answers out."""

from kindsdrawn.chances import chance_of_count, likeliest_count, mean_added, mean_count, rows_by_count

NOT_BEGUN = -11
NO_KINDS = -6
NO_SUCH_KIND = -2
NOT_ALLOWED = -22
NO_ROOM = -28

MOST_KINDS = 6
MOST_WEIGHT = 20
MOST_DRAWS = 12

BEGIN = 0
KIND = 1
WEIGHT = 2
OUT = 3
CHANCE = 4
ALL = 5
MEAN = 6
ADDS = 7
LIKELIEST = 8

# By a call's number. Those behind LIKELIEST are not built yet, but before a begin they too are only refused.
ARGUMENT_COUNTS = (0, 1, 2, 1, 2, 1, 1, 1, 1, 2, 1, 3, 2, 2, 3, 1, 0)


def is_weight(w):
    """Whether a kind may have this weight."""
    return 1 <= w <= MOST_WEIGHT


class Kinds:
    """The kinds as their weights, in the order of their numbers; each call gives back the numbers it answers."""

    def __init__(self):
        self.begun = False
        self.weights = []

    def begin(self):
        self.begun = True
        self.weights = []
        return [0]

    def kind(self, w):
        if not is_weight(w):
            return [NOT_ALLOWED]
        if len(self.weights) == MOST_KINDS:
            return [NO_ROOM]
        self.weights.append(w)
        return [len(self.weights) - 1]

    def weight(self, i, w):
        if i >= len(self.weights):
            return [NO_SUCH_KIND]
        if not is_weight(w):
            return [NOT_ALLOWED]
        before = self.weights[i]
        self.weights[i] = w
        return [before]

    def out(self, i):
        if i >= len(self.weights):
            return [NO_SUCH_KIND]
        self.weights.pop(i)
        return [len(self.weights)]


def answer_of_draws(weights, number, given):
    """What a call from CHANCE to LIKELIEST answers; the first of its arguments is how many draws."""
    n = given[0]
    if len(weights) == 0:
        return [NO_KINDS]
    if n > MOST_DRAWS:
        return [NOT_ALLOWED]
    if number == CHANCE:
        return [0] + chance_of_count(weights, n, given[1])
    if number == ALL:
        by_count = rows_by_count(weights, n)
        return [len(by_count)] + by_count
    if number == MEAN:
        return [0] + mean_count(weights, n)
    if number == ADDS:
        return [0] + mean_added(weights, n)
    return [likeliest_count(weights, n)]


def answer(kinds, number, given):
    """The numbers that one call answers."""
    if number == BEGIN:
        return kinds.begin()
    if not kinds.begun:
        return [NOT_BEGUN]
    if number == KIND:
        return kinds.kind(given[0])
    if number == WEIGHT:
        return kinds.weight(given[0], given[1])
    if number == OUT:
        return kinds.out(given[0])
    if number <= LIKELIEST:
        return answer_of_draws(kinds.weights, number, given)
    raise KeyError(number)


def answers(calls):
    """For each call of the list, in order: how many numbers it answers, then these."""
    kinds = Kinds()
    told = []
    start = 0
    while start < len(calls):
        number = calls[start]
        behind = start + 1 + ARGUMENT_COUNTS[number]
        answered = answer(kinds, number, calls[start + 1:behind])
        told.append(len(answered))
        told.extend(answered)
        start = behind
    return told

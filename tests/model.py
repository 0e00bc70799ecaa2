"""The document's words once more, in another way: rows of draws are gathered by how often each kind is drawn.

It is slow and short, so that it can be read beside the document; the program is compared with it.
"""

from fractions import Fraction
from functools import lru_cache
from math import factorial


def tallies(kinds, n):
    """Every way to have n draws fall on so many kinds, as how often each is drawn."""
    if kinds == 1:
        return [(n,)]
    return [(first,) + rest for first in range(n + 1) for rest in tallies(kinds - 1, n - first)]


def heaviness(weights, tally):
    """How heavy all rows of this tally are, together."""
    heavy = factorial(sum(tally))
    for w, often in zip(weights, tally):
        heavy = heavy // factorial(often) * w ** often
    return heavy


@lru_cache(maxsize=None)
def heavy_tallies(weights, n):
    return [(tally, heaviness(weights, tally)) for tally in tallies(len(weights), n)]


def different(tally):
    return sum(1 for often in tally if often > 0)


def average(weights, n, number):
    """What number(tally) is on the average over all rows."""
    rows = heavy_tallies(tuple(weights), n)
    return Fraction(sum(heavy * number(tally) for tally, heavy in rows), sum(weights) ** n)


def mean(weights, n):
    return average(weights, n, different)


def by_count(weights, n):
    heavies = [0] * (len(weights) + 1)
    for tally, heavy in heavy_tallies(tuple(weights), n):
        heavies[different(tally)] += heavy
    return heavies


@lru_cache(maxsize=None)
def long_means(weights):
    """The average by 0 to 399 draws."""
    total = sum(weights)
    return [sum(1 - Fraction(total - w, total) ** n for w in weights) for n in range(400)]


def leveled(weights, i, j):
    half = Fraction(weights[i] + weights[j], 2)
    return [half if k in (i, j) else w for k, w in enumerate(weights)]


def fraction(number):
    number = Fraction(number)
    return [0, number.numerator, number.denominator]


class Model:
    def __init__(self):
        self.weights = None

    def call(self, name, *given):
        """What a call answers, as a list."""
        if name == "begin":
            self.weights = []
            return [0]
        if self.weights is None:
            return [-11]
        refusals = self.refusals(name, given)
        if refusals:
            return [refusals[0]]
        return getattr(self, "do_" + name)(*given)

    def refusals(self, name, given):
        """All refusals that are due, in the order in which they are answered."""
        weights = self.weights
        due = []
        if name not in ("kind", "weight", "out", "level") and not weights:
            due.append(-6)
        named = {"weight": 1, "out": 1, "seen": 1, "both": 2, "level": 2, "would": 2}.get(name, 0)
        chosen = given[:named]
        if any(i >= len(weights) for i in chosen):
            due.append(-2)
        draws_at = {
            "chance": 0, "all": 0, "mean": 0, "adds": 0, "likeliest": 0, "seen": 1, "even": 0, "both": 2, "would": 2,
        }
        if name in draws_at and given[draws_at[name]] > 12:
            due.append(-22)
        if name in ("kind", "weight") and given[-1] not in range(1, 21):
            due.append(-22)
        if named == 2 and chosen[0] == chosen[1]:
            due.append(-22)
        if name == "needed" and (given[1] not in range(1, 101) or given[0] > 100):
            due.append(-22)
        if name == "kind" and len(weights) == 6:
            due.append(-28)
        if not due and name in ("level", "would") and sum(weights[i] for i in chosen) % 2:
            due.append(-33)
        if not due and name == "needed" and long_means(tuple(weights))[-1] < Fraction(*given):
            due.append(-33)
        return due

    def do_kind(self, w):
        self.weights.append(w)
        return [len(self.weights) - 1]

    def do_weight(self, i, w):
        was = self.weights[i]
        self.weights[i] = w
        return [was]

    def do_out(self, i):
        del self.weights[i]
        return [len(self.weights)]

    def do_chance(self, n, k):
        return fraction(average(self.weights, n, lambda tally: different(tally) == k))

    def do_all(self, n):
        return [len(self.weights) + 1] + by_count(self.weights, n)

    def do_mean(self, n):
        return fraction(mean(self.weights, n))

    def do_adds(self, n):
        return fraction(mean(self.weights, n + 1) - mean(self.weights, n))

    def do_likeliest(self, n):
        heavies = by_count(self.weights, n)
        return [max(range(len(heavies)), key=lambda k: (heavies[k], -k))]

    def do_seen(self, i, n):
        return fraction(average(self.weights, n, lambda tally: tally[i] > 0))

    def do_even(self, n):
        return fraction(mean([1] * len(self.weights), n))

    def do_both(self, i, j, n):
        return fraction(average(self.weights, n, lambda tally: tally[i] > 0 and tally[j] > 0))

    def do_needed(self, a, b):
        means = long_means(tuple(self.weights))
        return [min(n for n in range(400) if means[n] * b >= a)]

    def do_level(self, i, j):
        self.weights = [int(w) for w in leveled(self.weights, i, j)]
        return [self.weights[i]]

    def do_would(self, i, j, n):
        return fraction(mean([int(w) for w in leveled(self.weights, i, j)], n))

    def do_most(self, n):
        return [sorted([n, len(self.weights)])[0]]

    def do_told(self):
        return [len(self.weights)] + self.weights

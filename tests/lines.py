"""How the tests speak to the program, and the document's words counted out row by row to compare with."""

from fractions import Fraction
from itertools import product

from kindsdrawn.draws import answers

GREATEST = 4294967295

NUMBERS = {
    "begin": 0, "kind": 1, "weight": 2, "out": 3, "chance": 4, "all": 5, "mean": 6, "adds": 7, "likeliest": 8,
    "seen": 9, "even": 10, "both": 11, "needed": 12, "level": 13, "would": 14, "most": 15, "told": 16,
}


def as_list(line):
    """Calls like ("kind", 3) as the one list that is handed in."""
    handed = []
    for call in line:
        handed.append(NUMBERS[call[0]])
        handed.extend(call[1:])
    return handed


def run(*line):
    """The answers to the calls, a list for each of them."""
    told = answers(as_list(line))
    apart = []
    at = 0
    while at < len(told):
        behind = at + 1 + told[at]
        if behind > len(told):
            raise AssertionError(f"a count goes beyond the end: {told}")
        apart.append(told[at + 1:behind])
        at = behind
    if len(apart) != len(line):
        raise AssertionError(f"{len(line)} calls, {len(apart)} answers: {told}")
    return apart


def begun(weights):
    """The calls that make kinds of these weights."""
    return [("begin",)] + [("kind", w) for w in weights]


def ask(weights, *call):
    """The answer to one call on kinds of these weights."""
    return run(*begun(weights), call)[-1]


def weights_after(*line):
    """What weights there are behind these calls, in order, as weight tells them."""
    probes = [("weight", i, 1) for i in range(6)]
    told = run(*line, *probes)[len(line):]
    return [answer[0] for answer in told if answer[0] > 0]


def told_fraction(value):
    return [0, value.numerator, value.denominator]


def value(told):
    """A fraction as it is told, as one number."""
    nought, above, below = told
    if nought != 0:
        raise AssertionError(f"not told as a fraction: {told}")
    return Fraction(above, below)


def counted_rows(weights, n, wanted):
    """How likely n draws are a row of which wanted(row) holds, all rows gone through one by one."""
    held = 0
    together = 0
    for row in product(range(len(weights)), repeat=n):
        heavy = 1
        for i in row:
            heavy *= weights[i]
        together += heavy
        if wanted(row):
            held += heavy
    return Fraction(held, together)


def counted(weights, n):
    """For 0, 1 and so on kinds: all rows of n draws that have just so many, gone through one by one."""
    heavy = [0] * (len(weights) + 1)
    for row in product(range(len(weights)), repeat=n):
        together = 1
        for i in row:
            together *= weights[i]
        heavy[len(set(row))] += together
    return heavy


def counted_mean(weights, n):
    heavy = counted(weights, n)
    return Fraction(sum(k * h for k, h in enumerate(heavy)), sum(heavy))


# Few enough kinds and draws that every row can be gone through.
SMALL = [
    ([1], 6), ([20], 6), ([7], 4),
    ([1, 1], 6), ([1, 20], 6), ([3, 5], 6), ([6, 4], 6),
    ([1, 1, 1], 6), ([1, 2, 3], 6), ([20, 1, 20], 6),
    ([1, 2, 3, 4], 5), ([5, 5, 5, 5], 5),
    ([1, 20, 1, 20, 1], 4), ([2, 3, 5, 7, 11], 4),
    ([1, 1, 1, 1, 1, 1], 5), ([20, 20, 20, 20, 20, 20], 4), ([1, 4, 9, 16, 20, 2], 5),
]

SMALL_CASES = [(weights, n) for weights, most in SMALL for n in range(most + 1)]

# Great weights and many kinds, where rows are too many to be gone through.
WIDE = ([1], [20], [1, 1], [1, 20], [3, 3, 3], [1] * 6, [20] * 6, [20, 1, 20, 1, 20, 1], [20, 19, 18, 17, 16, 1])


def pairs(weights):
    """Every two kinds, in both orders."""
    return [(i, j) for i in range(len(weights)) for j in range(len(weights)) if i != j]

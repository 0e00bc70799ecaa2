"""Calls of every sort in one list: each tells of the weights as they are then."""

import unittest
from random import Random

from tests.lines import GREATEST, NUMBERS, as_list, begun, run
from tests.model import Model

ASKED = [
    ("chance", 3, 2), ("all", 3), ("mean", 3), ("adds", 3), ("likeliest", 3), ("seen", 1, 3), ("even", 3),
    ("both", 0, 1, 3), ("needed", 3, 2), ("would", 0, 1, 3), ("most", 3), ("told",),
]

# What each argument is, so that most lists are of calls that are not refused.
ARGUMENTS = {
    "begin": "", "kind": "w", "weight": "iw", "out": "i", "chance": "nk", "all": "n", "mean": "n", "adds": "n",
    "likeliest": "n", "seen": "in", "even": "n", "both": "ijn", "needed": "ab", "level": "ij", "would": "ijn",
    "most": "n", "told": "",
}
OFTEN = {
    "w": [1, 2, 3, 5, 8, 19, 20], "i": [0, 1, 2, 3], "j": [0, 1, 2, 3], "n": [0, 1, 2, 3, 5], "k": [0, 1, 2, 3, 4],
    "a": [0, 1, 3, 7, 19, 50, 95, 99, 100], "b": [1, 2, 3, 16, 20, 25, 33, 50, 100],
}
SELDOM = {
    "w": [0, 21, GREATEST], "i": [5, 6, GREATEST], "j": [4, 6, GREATEST], "n": [12, 13, GREATEST],
    "k": [6, 7, GREATEST], "a": [101, GREATEST], "b": [0, 101, GREATEST],
}


def modelled(line):
    model = Model()
    return [model.call(*call) for call in line]


def drawn_call(chance):
    """One call; the source is seeded, so that it is the same each time."""
    names = list(NUMBERS)[1:] + ["kind"] * 3 + ["level", "weight"]
    name = "begin" if chance.random() < 0.02 else chance.choice(names)
    given = [chance.choice((SELDOM if chance.random() < 0.08 else OFTEN)[sort]) for sort in ARGUMENTS[name]]
    return (name, *given)


class Together(unittest.TestCase):
    def test_every_call_goes_by_the_weights_as_they_are_then(self):
        changes = [("level", 0, 1), ("weight", 0, 20), ("out", 2), ("kind", 3), ("level", 1, 2)]
        line = begun([1, 5, 9]) + ASKED
        for change in changes:
            line += [change] + ASKED
        # The very last call is one too many for a list.
        line = line[:80]
        self.assertEqual(run(*line), modelled(line))
        weights = [[1, 5, 9], [3, 3, 9], [20, 3, 9], [20, 3], [20, 3, 3]]
        told = [answer for call, answer in zip(line, run(*line)) if call[0] == "told"]
        self.assertEqual(told, [[len(kinds)] + kinds for kinds in weights])

    def test_each_call_as_in_a_new_list_with_the_same_weights(self):
        changed = begun([7, 5, 9, 2]) + [("level", 1, 2), ("out", 3), ("weight", 0, 1), ("level", 0, 2)]
        for call in ASKED:
            self.assertEqual(run(*changed, call)[-1], run(*begun([4, 7, 4]), call)[-1])

    def test_twelve_draws_of_six_kinds(self):
        line = begun([20, 1, 19, 2, 20, 1]) + [
            ("chance", 12, 5), ("all", 12), ("mean", 12), ("likeliest", 12), ("seen", 1, 12), ("even", 12),
            ("both", 1, 2, 12), ("would", 1, 2, 12), ("most", 12), ("level", 1, 2), ("mean", 12), ("told",),
        ]
        self.assertEqual(run(*line), modelled(line))

    def test_many_lists_against_the_words(self):
        chance = Random(20)
        answered = {}
        for number in range(150):
            length = 80 if number % 10 == 0 else chance.randint(1, 40)
            line = [drawn_call(chance) for at in range(length)]
            if number % 5:
                line[0] = ("begin",)
            with self.subTest(calls=as_list(line)):
                told = run(*line)
                self.assertEqual(told, modelled(line))
            for call, answer in zip(line, told):
                answered.setdefault(call[0], {})[min(answer[0], 0)] = True
        # The lists are only worth something if they come to every refusal and to an answer of every call.
        named = {
            "begin": [0], "kind": [-28, -22, -11, 0], "weight": [-22, -11, -2, 0], "out": [-11, -2, 0],
            "seen": [-22, -11, -6, -2, 0], "both": [-22, -11, -6, -2, 0], "needed": [-33, -22, -11, -6, 0],
            "level": [-33, -22, -11, -2, 0], "would": [-33, -22, -11, -6, -2, 0], "most": [-11, -6, 0],
            "told": [-11, -6, 0],
        }
        for name in NUMBERS:
            self.assertEqual(sorted(answered[name]), named.get(name, [-22, -11, -6, 0]), name)


if __name__ == "__main__":
    unittest.main()

"""What is refused, with which number, and that a refusal changes nothing."""

import unittest

from tests.lines import GREATEST, NUMBERS, ask, begun, run, weights_after

OF_DRAWS = ("chance", "all", "mean", "adds", "likeliest")
TOO_MANY_DRAWS = (13, 14, 399, 2 ** 31, GREATEST)


def of_draws(name, n, k=1):
    return (name, n, k) if name == "chance" else (name, n)


class BeforeBegin(unittest.TestCase):
    def test_all_else_is_refused(self):
        counts = (0, 1, 2, 1, 2, 1, 1, 1, 1, 2, 1, 3, 2, 2, 3, 1, 0)
        for name, number in NUMBERS.items():
            if name != "begin":
                for argument in (0, 1, 12, GREATEST):
                    with self.subTest(name=name, argument=argument):
                        self.assertEqual(run((name,) + (argument,) * counts[number]), [[-11]])

    def test_goes_ahead_of_every_other_refusal(self):
        line = [("kind", 0), ("weight", 0, 0), ("out", 0), ("chance", 13, 1), ("mean", 13), ("likeliest", GREATEST)]
        self.assertEqual(run(*line), [[-11]] * len(line))

    def test_changes_nothing(self):
        line = [("kind", 5), ("kind", 6), ("begin",), ("mean", 1), ("kind", 7)]
        self.assertEqual(run(*line), [[-11], [-11], [0], [-6], [0]])
        self.assertEqual(weights_after(*line), [7])

    def test_not_behind_a_second_begin(self):
        self.assertEqual(run(("begin",), ("begin",), ("out", 0), ("mean", 0)), [[0], [0], [-2], [-6]])


class OfDraws(unittest.TestCase):
    def test_no_kinds(self):
        for name in OF_DRAWS:
            for n in (0, 1, 12):
                self.assertEqual(ask([], *of_draws(name, n)), [-6])

    def test_no_kinds_goes_ahead_of_too_many_draws(self):
        for name in OF_DRAWS:
            for n in TOO_MANY_DRAWS:
                self.assertEqual(ask([], *of_draws(name, n)), [-6])

    def test_too_many_draws(self):
        for name in OF_DRAWS:
            for n in TOO_MANY_DRAWS:
                for weights in ([1], [20, 1], [1, 2, 3, 4, 5, 6]):
                    self.assertEqual(ask(weights, *of_draws(name, n)), [-22])

    def test_twelve_draws_are_not_too_many(self):
        for name in OF_DRAWS:
            self.assertGreaterEqual(ask([3, 4], *of_draws(name, 12))[0], 0)

    def test_too_many_draws_and_more_kinds_than_there_are(self):
        self.assertEqual(ask([3, 4], "chance", 13, GREATEST), [-22])
        self.assertEqual(ask([], "chance", 12, GREATEST), [-6])

    def test_no_kinds_behind_out_and_behind_begin(self):
        for name in OF_DRAWS:
            call = of_draws(name, 1)
            self.assertEqual(run(("begin",), ("kind", 3), ("out", 0), call)[-1], [-6])
            self.assertEqual(run(("begin",), ("kind", 3), ("begin",), call)[-1], [-6])


class ChangesNothing(unittest.TestCase):
    def test_of_all_refusals_together(self):
        refused = [
            ("kind", 0), ("kind", 21), ("kind", GREATEST), ("weight", 6, 3), ("weight", 0, 0), ("weight", 5, 21),
            ("weight", GREATEST, GREATEST), ("out", 6), ("out", GREATEST), ("kind", 3),
        ] + [of_draws(name, 13) for name in OF_DRAWS]
        weights = [1, 20, 3, 4, 5, 6]
        line = begun(weights) + refused
        wanted = [-22, -22, -22, -2, -22, -22, -2, -2, -2, -28] + [-22] * len(OF_DRAWS)
        self.assertEqual(run(*line)[7:], [[number] for number in wanted])
        self.assertEqual(weights_after(*line), weights)

    def test_what_is_only_asked_changes_nothing_either(self):
        weights = [1, 20, 3]
        line = begun(weights) + [of_draws(name, n, n) for name in OF_DRAWS for n in (0, 1, 12)]
        self.assertEqual(weights_after(*line), weights)


if __name__ == "__main__":
    unittest.main()

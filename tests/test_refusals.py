"""What is refused, with which number, and that a refusal changes nothing."""

import unittest

from tests.lines import GREATEST, NUMBERS, ask, begun, run, weights_after

OF_DRAWS = ("chance", "all", "mean", "adds", "likeliest", "even")
TOO_MANY_DRAWS = (13, 14, 399, 2 ** 31, GREATEST)
COUNTS = (0, 1, 2, 1, 2, 1, 1, 1, 1, 2, 1, 3, 2, 2, 3, 1, 0)
# The calls that name -6; of the others only begin and kind go without a kind.
NAME_NO_KINDS = OF_DRAWS + ("seen", "both", "needed", "would", "most", "told")


def with_arguments(name, argument):
    """The call with all its arguments alike."""
    return (name,) + (argument,) * COUNTS[NUMBERS[name]]


def of_draws(name, n, k=1):
    return (name, n, k) if name == "chance" else (name, n)


class BeforeBegin(unittest.TestCase):
    def test_all_else_is_refused(self):
        for name in NUMBERS:
            if name != "begin":
                for argument in (0, 1, 12, GREATEST):
                    with self.subTest(name=name, argument=argument):
                        self.assertEqual(run(with_arguments(name, argument)), [[-11]])

    def test_goes_ahead_of_every_other_refusal(self):
        line = [
            ("kind", 0), ("weight", 0, 0), ("out", 0), ("chance", 13, 1), ("mean", 13), ("likeliest", GREATEST),
            ("seen", 0, 13), ("even", 13), ("both", 0, 0, 13), ("needed", 101, 0), ("level", 0, 0),
            ("would", 0, 0, 13), ("most", GREATEST), ("told",),
        ]
        self.assertEqual(run(*line), [[-11]] * len(line))

    def test_changes_nothing(self):
        line = [("kind", 5), ("kind", 6), ("begin",), ("mean", 1), ("kind", 7)]
        self.assertEqual(run(*line), [[-11], [-11], [0], [-6], [0]])
        self.assertEqual(weights_after(*line), [7])

    def test_not_behind_a_second_begin(self):
        self.assertEqual(run(("begin",), ("begin",), ("out", 0), ("mean", 0)), [[0], [0], [-2], [-6]])


class NoKinds(unittest.TestCase):
    def test_which_calls_name_it(self):
        for name in NUMBERS:
            for argument in (0, 1, 12, 13, 20, 101, GREATEST):
                told = ask([], *with_arguments(name, argument))
                with self.subTest(name=name, argument=argument):
                    if name in NAME_NO_KINDS:
                        self.assertEqual(told, [-6])
                    elif name in ("weight", "out", "level"):
                        self.assertEqual(told, [-2])
                    else:
                        self.assertNotEqual(told, [-6])

    def test_behind_out_and_behind_begin(self):
        for name in NAME_NO_KINDS:
            call = with_arguments(name, 1)
            self.assertEqual(run(("begin",), ("kind", 3), ("out", 0), call)[-1], [-6])
            self.assertEqual(run(("begin",), ("kind", 3), ("begin",), call)[-1], [-6])

    def test_goes_ahead_of_every_other_refusal(self):
        calls = [
            ("seen", 0, 13), ("seen", GREATEST, GREATEST), ("both", 0, 0, 13), ("both", 0, 1, 2), ("needed", 1, 0),
            ("needed", 101, 1), ("needed", 100, 1), ("would", 0, 0, 13), ("would", 0, 1, 2), ("would", 1, 1, 1),
        ]
        for call in calls:
            self.assertEqual(ask([], *call), [-6])


class WouldIsRefused(unittest.TestCase):
    def test_no_such_kind(self):
        for i, j in ((0, 3), (3, 0), (3, 4), (3, 3), (GREATEST, 0), (0, GREATEST), (GREATEST, GREATEST)):
            for n in (0, 2, 12, 13, GREATEST):
                self.assertEqual(ask([3, 5, 4], "would", i, j, n), [-2])

    def test_twice_the_same(self):
        for n in (0, 2, 12, 13, GREATEST):
            for i in range(3):
                self.assertEqual(ask([3, 5, 4], "would", i, i, n), [-22])
        self.assertEqual(ask([5], "would", 0, 0, 1), [-22])

    def test_too_many_draws(self):
        for n in TOO_MANY_DRAWS:
            self.assertEqual(ask([3, 5, 4], "would", 0, 1, n), [-22])

    def test_too_many_draws_goes_ahead_of_odd_together(self):
        for n in TOO_MANY_DRAWS:
            self.assertEqual(ask([3, 5, 4], "would", 0, 2, n), [-22])

    def test_odd_together(self):
        for i, j in ((0, 2), (2, 0), (1, 2), (2, 1)):
            for n in (0, 1, 12):
                self.assertEqual(ask([3, 5, 4], "would", i, j, n), [-33])


class OfDraws(unittest.TestCase):
    def test_no_kinds(self):
        for name in OF_DRAWS:
            for n in (0, 1, 12):
                self.assertEqual(ask([], *of_draws(name, n)), [-6])

    def test_no_kinds_goes_ahead_of_too_many_draws(self):
        for name in OF_DRAWS:
            for n in TOO_MANY_DRAWS:
                self.assertEqual(ask([], *of_draws(name, n)), [-6])

    def test_too_many_draws(self):
        for name in OF_DRAWS:
            for n in TOO_MANY_DRAWS:
                for weights in ([1], [20, 1], [1, 2, 3, 4, 5, 6]):
                    self.assertEqual(ask(weights, *of_draws(name, n)), [-22])

    def test_twelve_draws_are_not_too_many(self):
        for name in OF_DRAWS:
            self.assertGreaterEqual(ask([3, 4], *of_draws(name, 12))[0], 0)

    def test_too_many_draws_and_more_kinds_than_there_are(self):
        self.assertEqual(ask([3, 4], "chance", 13, GREATEST), [-22])
        self.assertEqual(ask([], "chance", 12, GREATEST), [-6])

    def test_too_many_draws_of_seen(self):
        for n in TOO_MANY_DRAWS:
            for i in range(3):
                self.assertEqual(ask([3, 4, 5], "seen", i, n), [-22])

    def test_twelve_are_not_too_many_of_the_others_either(self):
        for call in (("seen", 1, 12), ("both", 0, 1, 12), ("would", 0, 1, 12)):
            self.assertEqual(ask([3, 5], *call)[0], 0)


class ChangesNothing(unittest.TestCase):
    def test_of_all_refusals_together(self):
        refused = [
            ("kind", 0), ("kind", 21), ("kind", GREATEST), ("weight", 6, 3), ("weight", 0, 0), ("weight", 5, 21),
            ("weight", GREATEST, GREATEST), ("out", 6), ("out", GREATEST), ("kind", 3),
            ("level", 0, 6), ("level", GREATEST, 0), ("level", 2, 2), ("level", 0, 1), ("level", 4, 5),
            ("seen", 6, 1), ("seen", 0, 13), ("both", 0, 6, 1), ("both", 1, 1, 1), ("both", 0, 1, 13),
            ("would", 6, 0, 1), ("would", 3, 3, 1), ("would", 0, 2, 13), ("would", 0, 1, 1), ("needed", 1, 0),
            ("needed", 1, 101), ("needed", 101, 1), ("needed", 6, 1),
        ] + [of_draws(name, 13) for name in OF_DRAWS]
        weights = [1, 20, 3, 4, 5, 6]
        wanted = [
            -22, -22, -22, -2, -22, -22, -2, -2, -2, -28,
            -2, -2, -22, -33, -33,
            -2, -22, -2, -22, -22,
            -2, -22, -22, -33, -22,
            -22, -22, -33,
        ] + [-22] * len(OF_DRAWS)
        line = begun(weights) + refused
        self.assertEqual(run(*line)[7:], [[number] for number in wanted])
        self.assertEqual(weights_after(*line), weights)
        for call, number in zip(refused, wanted):
            self.assertEqual(run(*begun(weights), call, ("told",))[-2:], [[number], [6] + weights])

    def test_what_is_only_asked_changes_nothing_either(self):
        weights = [1, 20, 3]
        line = begun(weights) + [of_draws(name, n, n) for name in OF_DRAWS for n in (0, 1, 12)]
        line += [
            ("seen", 0, 5), ("both", 0, 1, 5), ("would", 0, 2, 5), ("would", 2, 0, 12), ("needed", 5, 2),
            ("needed", 0, 1), ("most", GREATEST), ("told",),
        ]
        self.assertGreaterEqual(min(told[0] for told in run(*line)), 0)
        self.assertEqual(weights_after(*line), weights)


if __name__ == "__main__":
    unittest.main()

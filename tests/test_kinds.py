"""Point 1: begin, kind, weight, out, level, told."""

import unittest

from tests.lines import GREATEST, ask, begun, pairs, run, weights_after


class Begin(unittest.TestCase):
    def test_answers_nought(self):
        self.assertEqual(run(("begin",)), [[0]])

    def test_there_are_no_kinds(self):
        self.assertEqual(run(("begin",), ("mean", 1)), [[0], [-6]])
        self.assertEqual(weights_after(("begin",)), [])

    def test_again_takes_all_kinds_away(self):
        line = begun([3, 4, 5]) + [("begin",)]
        self.assertEqual(run(*line)[-1], [0])
        self.assertEqual(weights_after(*line), [])
        self.assertEqual(run(*line, ("mean", 1))[-1], [-6])

    def test_again_numbers_from_nought_and_has_room_for_six(self):
        line = begun([1, 2, 3, 4, 5, 6]) + begun([6, 5, 4, 3, 2, 1])
        self.assertEqual(run(*line)[7:], [[0], [0], [1], [2], [3], [4], [5]])
        self.assertEqual(weights_after(*line), [6, 5, 4, 3, 2, 1])

    def test_twice_with_nothing_between(self):
        self.assertEqual(run(("begin",), ("begin",), ("kind", 2)), [[0], [0], [0]])


class Kind(unittest.TestCase):
    def test_numbers_from_nought(self):
        self.assertEqual(run(*begun([4, 4, 9, 1, 20, 7])), [[0], [0], [1], [2], [3], [4], [5]])

    def test_has_the_weight_given(self):
        self.assertEqual(weights_after(*begun([4, 4, 9, 1, 20, 7])), [4, 4, 9, 1, 20, 7])

    def test_every_weight_from_1_to_20(self):
        for w in range(1, 21):
            self.assertEqual(run(("begin",), ("kind", w), ("weight", 0, 1)), [[0], [0], [w]])

    def test_weight_out_of_range(self):
        for w in (0, 21, 22, 100, 2 ** 31, GREATEST):
            line = begun([5]) + [("kind", w)]
            self.assertEqual(run(*line)[-1], [-22])
            self.assertEqual(weights_after(*line), [5])

    def test_a_seventh(self):
        for w in (1, 7, 20):
            line = begun([1, 2, 3, 4, 5, 6]) + [("kind", w)]
            self.assertEqual(run(*line)[-1], [-28])
            self.assertEqual(weights_after(*line), [1, 2, 3, 4, 5, 6])

    def test_a_seventh_of_a_wrong_weight_is_refused_for_the_weight(self):
        for w in (0, 21, GREATEST):
            self.assertEqual(ask([1, 2, 3, 4, 5, 6], "kind", w), [-22])

    def test_room_again_behind_out(self):
        line = begun([1, 2, 3, 4, 5, 6]) + [("kind", 9), ("out", 2), ("kind", 9), ("kind", 9)]
        self.assertEqual(run(*line)[-4:], [[-28], [5], [5], [-28]])
        self.assertEqual(weights_after(*line), [1, 2, 4, 5, 6, 9])


class Weight(unittest.TestCase):
    def test_answers_what_it_was_and_keeps_the_new_one(self):
        line = begun([3, 4, 5]) + [("weight", 1, 20), ("weight", 1, 1), ("weight", 1, 17)]
        self.assertEqual(run(*line)[-3:], [[4], [20], [1]])
        self.assertEqual(weights_after(*line), [3, 17, 5])

    def test_the_same_again(self):
        line = begun([3, 4]) + [("weight", 0, 3)]
        self.assertEqual(run(*line)[-1], [3])
        self.assertEqual(weights_after(*line), [3, 4])

    def test_draws_go_by_the_new_weight(self):
        line = begun([3, 4]) + [("all", 1), ("weight", 0, 10), ("all", 1)]
        self.assertEqual(run(*line)[-3:], [[3, 0, 7, 0], [3], [3, 0, 14, 0]])

    def test_no_such_kind(self):
        for i in (2, 3, 6, GREATEST):
            line = begun([3, 4]) + [("weight", i, 9)]
            self.assertEqual(run(*line)[-1], [-2])
            self.assertEqual(weights_after(*line), [3, 4])

    def test_no_kinds_at_all(self):
        self.assertEqual(ask([], "weight", 0, 9), [-2])

    def test_weight_out_of_range(self):
        for w in (0, 21, GREATEST):
            line = begun([3, 4]) + [("weight", 1, w)]
            self.assertEqual(run(*line)[-1], [-22])
            self.assertEqual(weights_after(*line), [3, 4])

    def test_no_such_kind_goes_ahead_of_a_wrong_weight(self):
        for i in (2, GREATEST):
            for w in (0, 21, GREATEST):
                self.assertEqual(ask([3, 4], "weight", i, w), [-2])
        self.assertEqual(ask([], "weight", 0, 0), [-2])


class Out(unittest.TestCase):
    def test_those_behind_are_numbered_one_less(self):
        kept = {0: [2, 3, 4], 1: [1, 3, 4], 2: [1, 2, 4], 3: [1, 2, 3]}
        for i, weights in kept.items():
            line = begun([1, 2, 3, 4]) + [("out", i)]
            self.assertEqual(run(*line)[-1], [3])
            self.assertEqual(weights_after(*line), weights)

    def test_alike_weights_go_by_number(self):
        self.assertEqual(weights_after(*begun([5, 2, 5, 3]), ("out", 2)), [5, 2, 3])

    def test_the_last_number_is_free_again(self):
        line = begun([1, 2]) + [("out", 0), ("out", 1), ("kind", 8)]
        self.assertEqual(run(*line)[-3:], [[1], [-2], [1]])
        self.assertEqual(weights_after(*line), [2, 8])

    def test_down_to_none(self):
        line = begun([1, 2]) + [("out", 0), ("out", 0), ("out", 0), ("mean", 1), ("kind", 5)]
        self.assertEqual(run(*line)[-5:], [[1], [0], [-2], [-6], [0]])

    def test_draws_go_without_it(self):
        line = begun([3, 4, 5]) + [("out", 1), ("all", 2)]
        self.assertEqual(run(*line)[-1], [3, 0, 34, 30])

    def test_no_such_kind(self):
        for i in (3, 4, 6, GREATEST):
            line = begun([1, 2, 3]) + [("out", i)]
            self.assertEqual(run(*line)[-1], [-2])
            self.assertEqual(weights_after(*line), [1, 2, 3])
        self.assertEqual(ask([], "out", 0), [-2])


class Level(unittest.TestCase):
    def test_both_have_half(self):
        line = begun([3, 9, 5]) + [("level", 0, 1), ("told",)]
        self.assertEqual(run(*line)[-2:], [[6], [3, 6, 6, 5]])
        self.assertEqual(weights_after(*line), [6, 6, 5])

    def test_in_either_order_and_wherever_they_stand(self):
        weights = [1, 3, 5, 7, 9, 11]
        for i, j in pairs(weights):
            half = (weights[i] + weights[j]) // 2
            behind = [half if k in (i, j) else w for k, w in enumerate(weights)]
            self.assertEqual(run(*begun(weights), ("level", i, j), ("told",))[-2:], [[half], [6] + behind])

    def test_weights_of_1_to_20(self):
        for v in range(1, 21):
            for w in range(1, 21):
                told = run(*begun([v, w]), ("level", 0, 1), ("told",))[-2:]
                if (v + w) % 2 == 0:
                    self.assertEqual(told, [[(v + w) // 2], [2, (v + w) // 2, (v + w) // 2]])
                else:
                    self.assertEqual(told, [[-33], [2, v, w]])

    def test_that_changes_nothing(self):
        for w in (1, 7, 20):
            self.assertEqual(run(*begun([w, 4, w]), ("level", 0, 2), ("told",))[-2:], [[w], [3, w, 4, w]])

    def test_a_second_time_changes_nothing(self):
        line = begun([2, 20]) + [("level", 0, 1), ("level", 1, 0), ("told",)]
        self.assertEqual(run(*line)[-3:], [[11], [11], [2, 11, 11]])

    def test_draws_go_by_the_new_weights(self):
        line = begun([1, 3]) + [("all", 2), ("level", 0, 1), ("all", 2)]
        self.assertEqual(run(*line)[-3:], [[3, 0, 10, 6], [2], [3, 0, 8, 8]])

    def test_no_such_kind(self):
        for i, j in ((0, 2), (2, 0), (2, 3), (GREATEST, 0), (1, GREATEST)):
            line = begun([3, 5]) + [("level", i, j)]
            self.assertEqual(run(*line)[-1], [-2])
            self.assertEqual(weights_after(*line), [3, 5])

    def test_no_such_kind_goes_ahead_of_twice_the_same(self):
        for i in (2, 6, GREATEST):
            self.assertEqual(ask([3, 5], "level", i, i), [-2])

    def test_no_kinds_at_all(self):
        self.assertEqual(ask([], "level", 0, 0), [-2])
        self.assertEqual(ask([], "level", 0, 1), [-2])
        self.assertEqual(ask([], "level", GREATEST, GREATEST), [-2])

    def test_twice_the_same(self):
        for i in (0, 1):
            line = begun([3, 4]) + [("level", i, i)]
            self.assertEqual(run(*line)[-1], [-22])
            self.assertEqual(weights_after(*line), [3, 4])
        self.assertEqual(ask([5], "level", 0, 0), [-22])

    def test_odd_together(self):
        for i, j in ((0, 1), (1, 0), (1, 2), (2, 1)):
            line = begun([3, 4, 19]) + [("level", i, j)]
            self.assertEqual(run(*line)[-1], [-33])
            self.assertEqual(weights_after(*line), [3, 4, 19])


class Told(unittest.TestCase):
    def test_how_many_then_their_weights(self):
        for weights in ([7], [1, 20], [20, 1, 20], [4, 4, 9, 1, 20, 7]):
            self.assertEqual(ask(weights, "told"), [len(weights)] + weights)

    def test_as_they_are_then(self):
        line = begun([1, 2, 3]) + [
            ("told",), ("weight", 0, 20), ("told",), ("out", 1), ("told",), ("kind", 8), ("told",), ("level", 0, 2),
            ("told",),
        ]
        wanted = [[3, 1, 2, 3], [1], [3, 20, 2, 3], [2], [2, 20, 3], [2], [3, 20, 3, 8], [14], [3, 14, 3, 14]]
        self.assertEqual(run(*line)[4:], wanted)

    def test_changes_nothing(self):
        line = begun([5, 6]) + [("told",), ("told",)]
        self.assertEqual(run(*line)[-2:], [[2, 5, 6], [2, 5, 6]])
        self.assertEqual(weights_after(*line), [5, 6])

    def test_no_kinds(self):
        self.assertEqual(ask([], "told"), [-6])
        self.assertEqual(run(("begin",), ("kind", 3), ("out", 0), ("told",))[-1], [-6])
        self.assertEqual(run(("begin",), ("kind", 3), ("begin",), ("told",))[-1], [-6])


if __name__ == "__main__":
    unittest.main()

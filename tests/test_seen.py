"""Point 4: seen, both."""

import unittest
from fractions import Fraction

from tests.lines import GREATEST, SMALL_CASES, WIDE, ask, counted_rows, pairs, told_fraction, value


class Seen(unittest.TestCase):
    def test_as_counted_row_by_row(self):
        for weights, n in SMALL_CASES:
            for i in range(len(weights)):
                with self.subTest(weights=weights, i=i, n=n):
                    likely = counted_rows(weights, n, lambda row: i in row)
                    self.assertEqual(ask(weights, "seen", i, n), told_fraction(likely))

    def test_worked_out_by_hand(self):
        self.assertEqual(ask([1, 2, 3], "seen", 0, 1), [0, 1, 6])
        self.assertEqual(ask([1, 2, 3], "seen", 1, 1), [0, 1, 3])
        self.assertEqual(ask([1, 2, 3], "seen", 2, 1), [0, 1, 2])
        self.assertEqual(ask([1, 2, 3], "seen", 2, 2), [0, 3, 4])
        self.assertEqual(ask([1, 2, 3], "seen", 0, 2), [0, 11, 36])

    def test_no_draws(self):
        for weights in WIDE:
            self.assertEqual(ask(weights, "seen", len(weights) - 1, 0), [0, 0, 1])

    def test_one_kind(self):
        for n in range(1, 13):
            self.assertEqual(ask([20], "seen", 0, n), [0, 1, 1])

    def test_twelve_draws(self):
        self.assertEqual(ask([1, 1], "seen", 1, 12), [0, 4095, 4096])
        told = ask([20, 19, 18, 17, 16, 1], "seen", 5, 12)
        self.assertEqual(told, told_fraction(1 - Fraction(90, 91) ** 12))
        self.assertGreater(told[1], GREATEST)

    def test_together_they_are_the_average(self):
        for weights in WIDE:
            for n in range(13):
                together = sum(value(ask(weights, "seen", i, n)) for i in range(len(weights)))
                self.assertEqual(together, value(ask(weights, "mean", n)))

    def test_no_such_kind(self):
        for i in (2, 3, 6, GREATEST):
            self.assertEqual(ask([3, 4], "seen", i, 1), [-2])
        self.assertEqual(ask([1] * 6, "seen", 6, 12), [-2])

    def test_no_such_kind_goes_ahead_of_too_many_draws(self):
        self.assertEqual(ask([3, 4], "seen", 2, 13), [-2])
        self.assertEqual(ask([3, 4], "seen", GREATEST, GREATEST), [-2])

    def test_the_kind_is_named_ahead_of_the_draws(self):
        # Taken the other way round these would be refused otherwise, or not at all.
        self.assertEqual(ask([3, 4], "seen", 0, 5)[0], 0)
        self.assertEqual(ask([3, 4], "seen", 5, 0), [-2])
        self.assertEqual(ask([3, 4], "seen", 1, 13), [-22])


class Both(unittest.TestCase):
    def test_as_counted_row_by_row(self):
        for weights, n in SMALL_CASES:
            if len(weights) > 4 and n > 3:
                continue
            for i, j in pairs(weights):
                with self.subTest(weights=weights, i=i, j=j, n=n):
                    likely = counted_rows(weights, n, lambda row: i in row and j in row)
                    self.assertEqual(ask(weights, "both", i, j, n), told_fraction(likely))

    def test_worked_out_by_hand(self):
        self.assertEqual(ask([1, 1], "both", 0, 1, 2), [0, 1, 2])
        self.assertEqual(ask([1, 2, 3], "both", 0, 1, 2), [0, 1, 9])
        self.assertEqual(ask([1, 2, 3], "both", 2, 1, 2), [0, 1, 3])
        self.assertEqual(ask([1, 20], "both", 0, 1, 2), [0, 40, 441])

    def test_no_draws_and_one_draw(self):
        for weights in WIDE:
            for i, j in pairs(weights):
                self.assertEqual(ask(weights, "both", i, j, 0), [0, 0, 1])
                self.assertEqual(ask(weights, "both", i, j, 1), [0, 0, 1])

    def test_of_two_kinds_it_is_the_chance_of_two(self):
        for weights in ([1, 1], [1, 20], [20, 20], [7, 12]):
            for n in range(13):
                self.assertEqual(ask(weights, "both", 0, 1, n), ask(weights, "chance", n, 2))

    def test_twelve_draws(self):
        self.assertEqual(ask([1, 1], "both", 0, 1, 12), [0, 2047, 2048])
        told = ask([20, 19, 18, 17, 16, 1], "both", 0, 5, 12)
        likely = 1 - Fraction(71, 91) ** 12 - Fraction(90, 91) ** 12 + Fraction(70, 91) ** 12
        self.assertEqual(told, told_fraction(likely))
        self.assertGreater(told[1], GREATEST)

    def test_either_order(self):
        for weights in WIDE:
            for i, j in pairs(weights):
                self.assertEqual(ask(weights, "both", i, j, 7), ask(weights, "both", j, i, 7))

    def test_one_seen_makes_another_one_less_likely(self):
        for weights in WIDE:
            for i, j in pairs(weights):
                for n in (1, 2, 5, 12):
                    apart = value(ask(weights, "seen", i, n)) * value(ask(weights, "seen", j, n))
                    self.assertLess(value(ask(weights, "both", i, j, n)), apart)

    def test_no_such_kind(self):
        for i, j in ((0, 2), (2, 0), (2, 3), (1, GREATEST), (GREATEST, 1)):
            self.assertEqual(ask([3, 4], "both", i, j, 2), [-2])
            self.assertEqual(ask([3, 4], "both", i, j, 13), [-2])

    def test_no_such_kind_goes_ahead_of_twice_the_same(self):
        for i in (2, GREATEST):
            self.assertEqual(ask([3, 4], "both", i, i, 2), [-2])
            self.assertEqual(ask([3, 4], "both", i, i, GREATEST), [-2])

    def test_twice_the_same(self):
        for n in (0, 1, 12, 13, GREATEST):
            self.assertEqual(ask([3, 4], "both", 0, 0, n), [-22])
            self.assertEqual(ask([3, 4], "both", 1, 1, n), [-22])
        self.assertEqual(ask([20], "both", 0, 0, 1), [-22])

    def test_too_many_draws(self):
        for n in (13, 14, 2 ** 31, GREATEST):
            self.assertEqual(ask([3, 4, 5], "both", 0, 2, n), [-22])


if __name__ == "__main__":
    unittest.main()

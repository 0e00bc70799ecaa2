"""Point 3: mean, adds."""

import unittest
from fractions import Fraction

from tests.lines import GREATEST, SMALL_CASES, ask, counted_mean, told_fraction

WIDE = ([1], [20], [1, 1], [1, 20], [3, 3, 3], [1] * 6, [20] * 6, [20, 1, 20, 1, 20, 1], [20, 19, 18, 17, 16, 1])


def value(told):
    nought, above, below = told
    return Fraction(above, below)


class Mean(unittest.TestCase):
    def test_as_counted_row_by_row(self):
        for weights, n in SMALL_CASES:
            with self.subTest(weights=weights, n=n):
                self.assertEqual(ask(weights, "mean", n), told_fraction(counted_mean(weights, n)))

    def test_worked_out_by_hand(self):
        self.assertEqual(ask([1, 1], "mean", 2), [0, 3, 2])
        self.assertEqual(ask([1, 2, 3], "mean", 2), [0, 29, 18])
        self.assertEqual(ask([1, 20], "mean", 2), [0, 481, 441])

    def test_no_draws(self):
        for weights in WIDE:
            self.assertEqual(ask(weights, "mean", 0), [0, 0, 1])

    def test_one_draw(self):
        for weights in WIDE:
            self.assertEqual(ask(weights, "mean", 1), [0, 1, 1])

    def test_one_kind(self):
        for n in range(1, 13):
            self.assertEqual(ask([20], "mean", n), [0, 1, 1])

    def test_twelve_draws_of_six_alike(self):
        self.assertEqual(ask([1] * 6, "mean", 12), told_fraction(6 - 6 * Fraction(5, 6) ** 12))
        self.assertEqual(ask([20] * 6, "mean", 12), ask([1] * 6, "mean", 12))

    def test_is_the_average_of_all(self):
        for weights in WIDE:
            for n in range(13):
                rows = ask(weights, "all", n)[1:]
                average = Fraction(sum(k * heavy for k, heavy in enumerate(rows)), sum(rows))
                self.assertEqual(ask(weights, "mean", n), told_fraction(average))

    def test_great_numbers_stay_whole(self):
        told = ask([20, 19, 18, 17, 16, 1], "mean", 12)
        average = sum(1 - Fraction(91 - w, 91) ** 12 for w in (20, 19, 18, 17, 16, 1))
        self.assertEqual(told, told_fraction(average))
        self.assertGreater(told[1], GREATEST)
        self.assertGreater(told[2], GREATEST)


class Adds(unittest.TestCase):
    def test_as_counted_row_by_row(self):
        for weights, n in SMALL_CASES:
            if n > 0:
                more = counted_mean(weights, n) - counted_mean(weights, n - 1)
                with self.subTest(weights=weights, n=n - 1):
                    self.assertEqual(ask(weights, "adds", n - 1), told_fraction(more))

    def test_worked_out_by_hand(self):
        self.assertEqual(ask([1, 1], "adds", 1), [0, 1, 2])
        self.assertEqual(ask([1, 1], "adds", 2), [0, 1, 4])
        self.assertEqual(ask([1, 2, 3], "adds", 1), [0, 11, 18])

    def test_no_draws(self):
        for weights in WIDE:
            self.assertEqual(ask(weights, "adds", 0), [0, 1, 1])

    def test_one_kind_adds_nothing_behind_the_first(self):
        for n in range(1, 13):
            self.assertEqual(ask([20], "adds", n), [0, 0, 1])

    def test_is_what_mean_grows_by(self):
        for weights in WIDE:
            for n in range(12):
                more = value(ask(weights, "mean", n + 1)) - value(ask(weights, "mean", n))
                self.assertEqual(ask(weights, "adds", n), told_fraction(more))

    def test_behind_twelve_draws(self):
        told = ask([20, 19, 18, 17, 16, 1], "adds", 12)
        more = sum(Fraction(w, 91) * Fraction(91 - w, 91) ** 12 for w in (20, 19, 18, 17, 16, 1))
        self.assertEqual(told, told_fraction(more))
        self.assertGreater(told[1], GREATEST)
        self.assertGreater(told[2], GREATEST)
        self.assertEqual(ask([1, 1], "adds", 12), [0, 1, 4096])


if __name__ == "__main__":
    unittest.main()

"""Point 2: chance, all, likeliest, most."""

import unittest
from fractions import Fraction
from math import comb, factorial

from tests.lines import GREATEST, SMALL_CASES, ask, counted, told_fraction

# In how many ways twelve draws fall into just so many heaps: 0 to 6 of them.
HEAPS_OF_TWELVE = [0, 1, 2047, 86526, 611501, 1379400, 1323652]


class All(unittest.TestCase):
    def test_as_counted_row_by_row(self):
        for weights, n in SMALL_CASES:
            with self.subTest(weights=weights, n=n):
                self.assertEqual(ask(weights, "all", n), [len(weights) + 1] + counted(weights, n))

    def test_worked_out_by_hand(self):
        # Two draws of weights 1, 2, 3: 1 + 4 + 9 alike, 2 * (2 + 3 + 6) different.
        self.assertEqual(ask([1, 2, 3], "all", 2), [4, 0, 14, 22, 0])
        # Three draws of the same: 1 + 8 + 27 alike; all different 6 * 1 * 2 * 3; what is left of 216.
        self.assertEqual(ask([1, 2, 3], "all", 3), [4, 0, 36, 144, 36])

    def test_no_draws(self):
        self.assertEqual(ask([9], "all", 0), [2, 1, 0])
        self.assertEqual(ask([1, 2, 3, 4, 5, 6], "all", 0), [7, 1, 0, 0, 0, 0, 0, 0])

    def test_one_draw(self):
        self.assertEqual(ask([9], "all", 1), [2, 0, 9])
        self.assertEqual(ask([1, 2, 3, 4, 5, 20], "all", 1), [7, 0, 35, 0, 0, 0, 0, 0])

    def test_one_kind(self):
        self.assertEqual(ask([1], "all", 12), [2, 0, 1])
        self.assertEqual(ask([20], "all", 12), [2, 0, 20 ** 12])

    def test_fewer_draws_than_kinds(self):
        self.assertEqual(ask([1, 1, 1, 1, 1, 1], "all", 2), [7, 0, 6, 30, 0, 0, 0, 0])

    def test_twelve_draws_of_six_alike(self):
        for w in (1, 7, 20):
            rows = [comb(6, k) * factorial(k) * HEAPS_OF_TWELVE[k] * w ** 12 for k in range(7)]
            self.assertEqual(ask([w] * 6, "all", 12), [7] + rows)

    def test_great_numbers_are_whole_and_together_all_rows(self):
        for weights in ([20, 19, 18, 17, 16, 15], [20, 1, 20, 1, 20, 1], [20] * 6):
            told = ask(weights, "all", 12)
            self.assertEqual(sum(told[1:]), sum(weights) ** 12)
            self.assertEqual(told[2], sum(w ** 12 for w in weights))
            self.assertGreater(told[-1], GREATEST)

    def test_not_in_lowest_terms(self):
        self.assertEqual(ask([2, 2], "all", 2), [3, 0, 8, 8])


class Chance(unittest.TestCase):
    def test_as_counted_row_by_row(self):
        for weights, n in SMALL_CASES:
            heavy = counted(weights, n)
            for k, rows in enumerate(heavy):
                with self.subTest(weights=weights, n=n, k=k):
                    self.assertEqual(ask(weights, "chance", n, k), told_fraction(Fraction(rows, sum(heavy))))

    def test_worked_out_by_hand(self):
        self.assertEqual(ask([1, 2, 3], "chance", 2, 1), [0, 7, 18])
        self.assertEqual(ask([1, 2, 3], "chance", 2, 2), [0, 11, 18])
        self.assertEqual(ask([1, 2, 3], "chance", 3, 3), [0, 1, 6])
        self.assertEqual(ask([1, 20], "chance", 2, 2), [0, 40, 441])

    def test_no_draws(self):
        self.assertEqual(ask([4, 5], "chance", 0, 0), [0, 1, 1])
        self.assertEqual(ask([4, 5], "chance", 0, 1), [0, 0, 1])

    def test_one_draw(self):
        self.assertEqual(ask([4, 5], "chance", 1, 0), [0, 0, 1])
        self.assertEqual(ask([4, 5], "chance", 1, 1), [0, 1, 1])
        self.assertEqual(ask([4, 5], "chance", 1, 2), [0, 0, 1])

    def test_one_kind(self):
        self.assertEqual(ask([20], "chance", 12, 1), [0, 1, 1])
        self.assertEqual(ask([20], "chance", 12, 0), [0, 0, 1])

    def test_more_kinds_than_there_are(self):
        for k in (3, 4, 6, 7, 12, 13, GREATEST):
            self.assertEqual(ask([4, 5], "chance", 12, k), [0, 0, 1])
        for k in (7, 8, GREATEST):
            self.assertEqual(ask([1, 2, 3, 4, 5, 6], "chance", 12, k), [0, 0, 1])

    def test_more_kinds_than_draws(self):
        self.assertEqual(ask([1, 2, 3, 4], "chance", 2, 3), [0, 0, 1])

    def test_great_numbers_stay_whole(self):
        rows = ask([20, 19, 18, 17, 16, 1], "all", 12)[1:]
        for k in range(7):
            told = ask([20, 19, 18, 17, 16, 1], "chance", 12, k)
            self.assertEqual(told, told_fraction(Fraction(rows[k], 91 ** 12)))
        self.assertGreater(told[1], GREATEST)
        self.assertGreater(told[2], GREATEST)

    def test_all_together_are_certain(self):
        for weights in ([20, 19, 18, 17, 16, 1], [1, 20], [3, 3, 3]):
            for n in (0, 1, 7, 12):
                told = [ask(weights, "chance", n, k) for k in range(len(weights) + 1)]
                self.assertEqual(sum(Fraction(above, below) for nought, above, below in told), 1)


class Likeliest(unittest.TestCase):
    def test_as_counted_row_by_row(self):
        for weights, n in SMALL_CASES:
            heavy = counted(weights, n)
            with self.subTest(weights=weights, n=n):
                self.assertEqual(ask(weights, "likeliest", n), [heavy.index(max(heavy))])

    def test_worked_out_by_hand(self):
        self.assertEqual(ask([1, 2, 3], "likeliest", 2), [2])
        self.assertEqual(ask([1, 20], "likeliest", 2), [1])

    def test_of_like_ones_the_least(self):
        # Two draws of two alike: 2 rows with one kind, 2 rows with both.
        self.assertEqual(ask([1, 1], "likeliest", 2), [1])
        self.assertEqual(ask([20, 20], "likeliest", 2), [1])

    def test_no_draws_and_one_draw(self):
        for weights in ([1], [20, 1], [1, 2, 3, 4, 5, 6]):
            self.assertEqual(ask(weights, "likeliest", 0), [0])
            self.assertEqual(ask(weights, "likeliest", 1), [1])

    def test_twelve_draws(self):
        self.assertEqual(ask([20], "likeliest", 12), [1])
        self.assertEqual(ask([1, 1], "likeliest", 12), [2])
        self.assertEqual(ask([20, 1], "likeliest", 12), [1])
        self.assertEqual(ask([1] * 6, "likeliest", 12), [5])
        self.assertEqual(ask([20, 1, 1, 1, 1, 1], "likeliest", 12), [3])


class Most(unittest.TestCase):
    def test_as_counted_row_by_row(self):
        for weights, n in SMALL_CASES:
            greatest = max(k for k, heavy in enumerate(counted(weights, n)) if heavy > 0)
            self.assertEqual(ask(weights, "most", n), [greatest])

    def test_no_more_than_draws_and_no_more_than_kinds(self):
        for count in range(1, 7):
            for n in range(20):
                self.assertEqual(ask([3] * count, "most", n), [n if n < count else count])

    def test_any_number_of_draws(self):
        for n in (12, 13, 399, 400, 2 ** 31, 2 ** 32 - 2, GREATEST):
            self.assertEqual(ask([20], "most", n), [1])
            self.assertEqual(ask([1, 20, 5], "most", n), [3])
            self.assertEqual(ask([1, 2, 3, 4, 5, 6], "most", n), [6])

    def test_no_kinds(self):
        for n in (0, 1, 12, 13, GREATEST):
            self.assertEqual(ask([], "most", n), [-6])


if __name__ == "__main__":
    unittest.main()

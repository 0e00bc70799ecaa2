"""Point 3: mean, adds, even, would, needed."""

import unittest
from fractions import Fraction

from kindsdrawn.chances import draws_needed
from kindsdrawn.draws import MOST_DRAWS_NEEDED
from tests.lines import (
    GREATEST, SMALL, SMALL_CASES, WIDE, ask, begun, counted_mean, pairs, run, told_fraction, value,
)


def long_mean(weights, n):
    """The average for any number of draws: each kind is there but where all draws missed it."""
    total = sum(weights)
    return sum(1 - Fraction(total - w, total) ** n for w in weights)


class Mean(unittest.TestCase):
    def test_as_counted_row_by_row(self):
        for weights, n in SMALL_CASES:
            with self.subTest(weights=weights, n=n):
                self.assertEqual(ask(weights, "mean", n), told_fraction(counted_mean(weights, n)))

    def test_worked_out_by_hand(self):
        self.assertEqual(ask([1, 1], "mean", 2), [0, 3, 2])
        self.assertEqual(ask([1, 2, 3], "mean", 2), [0, 29, 18])
        self.assertEqual(ask([1, 20], "mean", 2), [0, 481, 441])

    def test_no_draws(self):
        for weights in WIDE:
            self.assertEqual(ask(weights, "mean", 0), [0, 0, 1])

    def test_one_draw(self):
        for weights in WIDE:
            self.assertEqual(ask(weights, "mean", 1), [0, 1, 1])

    def test_one_kind(self):
        for n in range(1, 13):
            self.assertEqual(ask([20], "mean", n), [0, 1, 1])

    def test_twelve_draws_of_six_alike(self):
        self.assertEqual(ask([1] * 6, "mean", 12), told_fraction(6 - 6 * Fraction(5, 6) ** 12))
        self.assertEqual(ask([20] * 6, "mean", 12), ask([1] * 6, "mean", 12))

    def test_is_the_average_of_all(self):
        for weights in WIDE:
            for n in range(13):
                rows = ask(weights, "all", n)[1:]
                average = Fraction(sum(k * heavy for k, heavy in enumerate(rows)), sum(rows))
                self.assertEqual(ask(weights, "mean", n), told_fraction(average))

    def test_great_numbers_stay_whole(self):
        told = ask([20, 19, 18, 17, 16, 1], "mean", 12)
        average = sum(1 - Fraction(91 - w, 91) ** 12 for w in (20, 19, 18, 17, 16, 1))
        self.assertEqual(told, told_fraction(average))
        self.assertGreater(told[1], GREATEST)
        self.assertGreater(told[2], GREATEST)


class Adds(unittest.TestCase):
    def test_as_counted_row_by_row(self):
        for weights, n in SMALL_CASES:
            if n > 0:
                more = counted_mean(weights, n) - counted_mean(weights, n - 1)
                with self.subTest(weights=weights, n=n - 1):
                    self.assertEqual(ask(weights, "adds", n - 1), told_fraction(more))

    def test_worked_out_by_hand(self):
        self.assertEqual(ask([1, 1], "adds", 1), [0, 1, 2])
        self.assertEqual(ask([1, 1], "adds", 2), [0, 1, 4])
        self.assertEqual(ask([1, 2, 3], "adds", 1), [0, 11, 18])

    def test_no_draws(self):
        for weights in WIDE:
            self.assertEqual(ask(weights, "adds", 0), [0, 1, 1])

    def test_one_kind_adds_nothing_behind_the_first(self):
        for n in range(1, 13):
            self.assertEqual(ask([20], "adds", n), [0, 0, 1])

    def test_is_what_mean_grows_by(self):
        for weights in WIDE:
            for n in range(12):
                more = value(ask(weights, "mean", n + 1)) - value(ask(weights, "mean", n))
                self.assertEqual(ask(weights, "adds", n), told_fraction(more))

    def test_behind_twelve_draws(self):
        told = ask([20, 19, 18, 17, 16, 1], "adds", 12)
        more = sum(Fraction(w, 91) * Fraction(91 - w, 91) ** 12 for w in (20, 19, 18, 17, 16, 1))
        self.assertEqual(told, told_fraction(more))
        self.assertGreater(told[1], GREATEST)
        self.assertGreater(told[2], GREATEST)
        self.assertEqual(ask([1, 1], "adds", 12), [0, 1, 4096])

    def test_each_draw_adds_less_and_something(self):
        for weights in WIDE:
            if len(weights) > 1:
                told = [value(ask(weights, "adds", n)) for n in range(13)]
                self.assertEqual(told, sorted(set(told), reverse=True))
                self.assertGreater(told[-1], 0)


class Even(unittest.TestCase):
    def test_as_counted_row_by_row(self):
        for weights, n in SMALL_CASES:
            with self.subTest(weights=weights, n=n):
                alike = counted_mean([1] * len(weights), n)
                self.assertEqual(ask(weights, "even", n), told_fraction(alike))

    def test_worked_out_by_hand(self):
        self.assertEqual(ask([1, 20], "even", 2), [0, 3, 2])
        # Three kinds, two draws: the second is another kind two times of three.
        self.assertEqual(ask([1, 2, 3], "even", 2), [0, 5, 3])
        self.assertEqual(ask([1, 2, 3, 4, 5, 6], "even", 12), told_fraction(6 - 6 * Fraction(5, 6) ** 12))

    def test_no_draws_one_draw_one_kind(self):
        for weights in WIDE:
            self.assertEqual(ask(weights, "even", 0), [0, 0, 1])
            self.assertEqual(ask(weights, "even", 1), [0, 1, 1])
        for n in range(1, 13):
            self.assertEqual(ask([20], "even", n), [0, 1, 1])

    def test_is_the_mean_of_alike_weights(self):
        for weights in WIDE:
            for n in range(13):
                for w in (1, 20):
                    self.assertEqual(ask(weights, "even", n), ask([w] * len(weights), "mean", n))

    def test_alike_chances_make_most_and_only_they_as_many(self):
        for weights in WIDE + tuple(weights for weights, most in SMALL):
            for n in range(2, 13):
                mean = value(ask(weights, "mean", n))
                even = value(ask(weights, "even", n))
                if len(set(weights)) == 1:
                    self.assertEqual(even, mean)
                else:
                    self.assertGreater(even, mean)


class Would(unittest.TestCase):
    def test_as_counted_row_by_row(self):
        for weights, n in SMALL_CASES:
            if len(weights) > 4 or n > 4:
                continue
            for i, j in pairs(weights):
                if (weights[i] + weights[j]) % 2 == 0:
                    behind = list(weights)
                    behind[i] = behind[j] = (weights[i] + weights[j]) // 2
                    with self.subTest(weights=weights, i=i, j=j, n=n):
                        self.assertEqual(ask(weights, "would", i, j, n), told_fraction(counted_mean(behind, n)))

    def test_worked_out_by_hand(self):
        # 1, 2, 3 become 2, 2, 2: then as three alike.
        self.assertEqual(ask([1, 2, 3], "would", 0, 2, 2), [0, 5, 3])
        self.assertEqual(ask([1, 2, 3], "mean", 2), [0, 29, 18])
        self.assertEqual(ask([1, 3], "would", 1, 0, 2), [0, 3, 2])

    def test_is_the_mean_behind_level_and_changes_nothing(self):
        for weights in ([1, 19], [2, 20, 5], [1, 3, 5, 7, 9, 11], [20, 2, 20, 2, 20, 2], [1, 1, 1]):
            for i, j in pairs(weights):
                for n in (0, 1, 2, 7, 12):
                    line = begun(weights) + [("would", i, j, n), ("told",), ("mean", n), ("level", i, j), ("mean", n)]
                    told = run(*line)[len(weights) + 1:]
                    if (weights[i] + weights[j]) % 2 == 1:
                        self.assertEqual(told[0], [-33])
                        self.assertEqual(told[2], told[4])
                    else:
                        self.assertEqual(told[0], told[4])
                    self.assertEqual(told[1], [len(weights)] + weights)

    def test_no_draws_and_one_draw(self):
        self.assertEqual(ask([1, 19, 4], "would", 0, 1, 0), [0, 0, 1])
        self.assertEqual(ask([1, 19, 4], "would", 0, 1, 1), [0, 1, 1])

    def test_a_level_that_changes_nothing(self):
        for n in range(13):
            self.assertEqual(ask([7, 20, 7], "would", 0, 2, n), ask([7, 20, 7], "mean", n))

    def test_more_than_mean_where_it_changes_something(self):
        for n in range(2, 13):
            self.assertGreater(value(ask([1, 4, 19], "would", 0, 2, n)), value(ask([1, 4, 19], "mean", n)))


class Needed(unittest.TestCase):
    def test_so_many_and_no_fewer(self):
        for weights in WIDE + tuple(weights for weights, most in SMALL):
            means = [value(ask(weights, "mean", n)) for n in range(13)]
            self.assertEqual(means, [long_mean(weights, n) for n in range(13)])
            for a, b in ((0, 1), (1, 100), (1, 2), (1, 1), (100, 99), (3, 2), (2, 1), (7, 3), (5, 2), (7, 2), (4, 1)):
                told = ask(weights, "needed", a, b)
                enough = [n for n in range(13) if means[n] >= Fraction(a, b)]
                with self.subTest(weights=weights, a=a, b=b):
                    if enough:
                        self.assertEqual(told, enough[:1])
                    elif told != [-33]:
                        self.assertGreater(told[0], 12)
                        self.assertGreaterEqual(long_mean(weights, told[0]), Fraction(a, b))
                        self.assertLess(long_mean(weights, told[0] - 1), Fraction(a, b))
                    else:
                        self.assertLess(long_mean(weights, 399), Fraction(a, b))

    def test_worked_out_by_hand(self):
        # Two alike have 1, 3/2, 7/4, 15/8 kinds on the average by 1, 2, 3, 4 draws.
        self.assertEqual(ask([5, 5], "needed", 1, 1), [1])
        self.assertEqual(ask([5, 5], "needed", 3, 2), [2])
        self.assertEqual(ask([5, 5], "needed", 7, 4), [3])
        self.assertEqual(ask([5, 5], "needed", 15, 8), [4])

    def test_just_come_to_and_just_not(self):
        self.assertEqual(ask([5, 5], "needed", 75, 50), [2])
        self.assertEqual(ask([5, 5], "needed", 76, 50), [3])
        self.assertEqual(ask([5, 5], "needed", 74, 50), [2])
        self.assertEqual(ask([1, 2, 3], "needed", 29, 18), [2])
        self.assertEqual(ask([1, 2, 3], "needed", 30, 18), [3])

    def test_nothing_needs_no_draws(self):
        for weights in WIDE:
            for b in (1, 2, 99, 100):
                self.assertEqual(ask(weights, "needed", 0, b), [0])

    def test_up_to_one_kind_needs_one_draw(self):
        for weights in WIDE:
            for a, b in ((1, 100), (1, 2), (99, 100), (1, 1), (100, 100)):
                self.assertEqual(ask(weights, "needed", a, b), [1])

    def test_never_come_to(self):
        for weights in WIDE:
            count = len(weights)
            if count > 1:
                self.assertEqual(ask(weights, "needed", count, 1), [-33])
                self.assertEqual(ask(weights, "needed", count * 16, 16), [-33])
            self.assertEqual(ask(weights, "needed", count + 1, 1), [-33])
            self.assertEqual(ask(weights, "needed", 100, 1), [-33])
        self.assertEqual(ask([20], "needed", 100, 99), [-33])
        self.assertEqual(ask([20], "needed", 2, 1), [-33])

    def test_come_to_by_a_great_number_of_draws(self):
        # Of all weights these need the most draws for the greatest a by b below as many kinds.
        cases = (
            ([1, 20], 99, 50, 81),
            ([20, 1, 20], 98, 33, 142),
            ([20, 20, 20, 1], 99, 25, 195),
            ([20, 1, 20, 20, 20], 99, 20, 242),
            ([1, 20, 20, 1, 20, 20], 95, 16, 283),
        )
        for weights, a, b, n in cases:
            self.assertEqual(ask(weights, "needed", a, b), [n])
            self.assertGreaterEqual(long_mean(weights, n), Fraction(a, b))
            self.assertLess(long_mean(weights, n - 1), Fraction(a, b))

    def test_by_399_draws_and_no_more(self):
        # No a and b up to 100 need so many, so the bound is asked for beneath the call.
        for n, wanted in ((398, 398), (399, 399), (400, None)):
            mean = long_mean([1, 20, 20], n)
            told = draws_needed([1, 20, 20], mean.numerator, mean.denominator, MOST_DRAWS_NEEDED)
            self.assertEqual(told, wanted)

    def test_a_and_b_not_allowed(self):
        for weights in ([20], [1, 20], [1, 2, 3, 4, 5, 6]):
            for a, b in ((0, 0), (1, 0), (0, 101), (1, 101), (1, GREATEST), (101, 1), (101, 100), (GREATEST, 1)):
                self.assertEqual(ask(weights, "needed", a, b), [-22])
            self.assertEqual(ask(weights, "needed", GREATEST, GREATEST), [-22])
            self.assertEqual(ask(weights, "needed", 101, 0), [-22])

    def test_greatest_a_and_b(self):
        self.assertEqual(ask([1, 1, 1], "needed", 100, 100), [1])
        self.assertEqual(ask([1, 1], "needed", 100, 67), [2])
        self.assertEqual(ask([1, 1], "needed", 100, 66), [3])


if __name__ == "__main__":
    unittest.main()

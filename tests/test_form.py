"""The interface: the list that is handed in, the list that is given back, and nothing kept."""

import unittest

from kindsdrawn.draws import answers
from tests.lines import GREATEST, as_list, begun


class Form(unittest.TestCase):
    def test_one_call(self):
        self.assertEqual(answers([0]), [1, 0])
        self.assertEqual(answers([5, 3]), [1, -11])

    def test_each_call_as_its_numbers_stand(self):
        calls = [0, 1, 1, 1, 2, 1, 9, 2, 2, 3, 4, 2, 2, 5, 2, 6, 2, 7, 1, 8, 2, 3, 0]
        told = [
            1, 0,
            1, 0,
            1, 1,
            1, 2,
            1, 9,
            3, 0, 11, 18,
            5, 4, 0, 14, 22, 0,
            3, 0, 29, 18,
            3, 0, 11, 18,
            1, 2,
            1, 2,
        ]
        self.assertEqual(answers(calls), told)

    def test_each_later_call_as_its_numbers_stand(self):
        calls = [
            0, 1, 1, 1, 2, 1, 3,
            9, 2, 2, 10, 2, 11, 0, 1, 2, 12, 3, 2, 14, 0, 2, 2, 15, 2, 16, 13, 0, 2, 16, 6, 2,
        ]
        told = [
            1, 0,
            1, 0,
            1, 1,
            1, 2,
            3, 0, 3, 4,
            3, 0, 5, 3,
            3, 0, 1, 9,
            1, 2,
            3, 0, 5, 3,
            1, 2,
            4, 3, 1, 2, 3,
            1, 2,
            4, 3, 2, 2, 2,
            3, 0, 5, 3,
        ]
        self.assertEqual(answers(calls), told)

    def test_how_long_told_is(self):
        for count in range(1, 7):
            told = answers(as_list(begun([9] * count) + [("told",)]))
            self.assertEqual(told[-(count + 2):], [count + 1, count] + [9] * count)

    def test_how_long_all_is(self):
        for count in range(1, 7):
            told = answers(as_list(begun([2] * count) + [("all", 0)]))
            self.assertEqual(told[-(count + 3):], [count + 2, count + 1, 1] + [0] * count)

    def test_a_refusal_is_its_number_alone(self):
        calls = [4, 1, 1, 0, 4, 1, 1, 5, 13, 1, 0, 1, 5, 4, 13, 1, 5, 13, 2, 1, 5, 3, 7]
        told = [1, -11, 1, 0, 1, -6, 1, -6, 1, -22, 1, 0, 1, -22, 1, -22, 1, -2, 1, -2]
        self.assertEqual(answers(calls), told)
        calls = [16, 0, 16, 13, 0, 1, 1, 5, 9, 1, 13, 11, 0, 0, 1, 12, 2, 1, 14, 0, 1, 1, 12, 1, 0, 16]
        told = [1, -11, 1, 0, 1, -6, 1, -2, 1, 0, 1, -2, 1, -22, 1, -33, 1, -2, 1, -22, 2, 1, 5]
        self.assertEqual(answers(calls), told)

    def test_eighty_calls(self):
        self.assertEqual(answers([0] * 80), [1, 0] * 80)
        line = begun([20] * 6) + [("all", 12)] * 73
        alone = answers(as_list(begun([20] * 6) + [("all", 12)]))
        self.assertEqual(len(line), 80)
        self.assertEqual(answers(as_list(line)), alone + alone[14:] * 72)

    def test_eighty_calls_of_the_longest(self):
        line = begun([1, 20]) + [("chance", 12, GREATEST)] * 77
        self.assertEqual(answers(as_list(line)), [1, 0, 1, 0, 1, 1] + [3, 0, 0, 1] * 77)
        line = begun([2, 20]) + [("would", 1, 0, 2)] * 77
        self.assertEqual(answers(as_list(line)), [1, 0, 1, 0, 1, 1] + [3, 0, 3, 2] * 77)
        line = begun([20] * 5 + [1]) + [("needed", 6, 1)] * 73
        self.assertEqual(answers(as_list(line))[14:], [1, -33] * 73)

    def test_whole_numbers_in_a_list(self):
        line = begun([1, 20, 7]) + [
            ("weight", 0, 2), ("chance", 3, 2), ("chance", 0, 0), ("chance", 3, 9), ("all", 12), ("mean", 0),
            ("mean", 12), ("adds", 12), ("likeliest", 12), ("seen", 1, 12), ("seen", 1, 0), ("even", 12),
            ("both", 0, 1, 12), ("both", 0, 1, 0), ("needed", 0, 1), ("needed", 5, 2), ("needed", 3, 1),
            ("would", 0, 1, 12), ("would", 0, 2, 12), ("most", 0), ("most", GREATEST), ("told",), ("level", 0, 1),
            ("level", 0, 2), ("level", 0, 0), ("out", 0), ("out", 9), ("kind", 0),
        ]
        told = answers(as_list(line))
        self.assertIs(type(told), list)
        for number in told:
            self.assertIs(type(number), int)


class Kept(unittest.TestCase):
    CALLS = as_list(begun([1, 2, 3]) + [
        ("all", 3), ("seen", 0, 3), ("both", 0, 2, 3), ("would", 0, 2, 3), ("needed", 5, 2), ("even", 3), ("told",),
        ("level", 0, 2), ("told",), ("weight", 0, 20), ("out", 1), ("all", 3), ("most", 9), ("kind", 0), ("told",),
    ])

    def test_what_is_handed_in_stays_as_it_was(self):
        calls = list(self.CALLS)
        answers(calls)
        self.assertEqual(calls, self.CALLS)

    def test_what_is_handed_in_is_not_changed_for_a_while_either(self):
        # A list that refuses every change, so one that is taken back later shows too.
        self.assertEqual(answers(Unchanging(self.CALLS)), answers(list(self.CALLS)))

    def test_a_second_time_is_as_the_first(self):
        first = answers(list(self.CALLS))
        answers([0, 1, 5, 1, 6])
        self.assertEqual(answers(list(self.CALLS)), first)
        self.assertEqual(answers([1, 5]), [1, -11])

    def test_what_is_given_back_is_new_each_time(self):
        first = answers([0, 1, 5])
        first.append(7)
        self.assertEqual(answers([0, 1, 5]), [1, 0, 1, 0])


def refuse(self, *given, **named):
    raise AssertionError("the list that is handed in was to be changed")


class Unchanging(list):
    __setitem__ = __delitem__ = __iadd__ = __imul__ = refuse
    append = extend = insert = pop = remove = clear = sort = reverse = refuse


if __name__ == "__main__":
    unittest.main()

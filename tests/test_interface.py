"""The interface: how calls and answers stand in one list, and that nothing is kept or changed."""

import unittest

from tests.helper import TOP, begin, kind, die, add, strike, bring, plan
from tests.sessions import in_one_list
from wholemint.mint import answers


class Interface(unittest.TestCase):
    def test_each_call_in_one_list(self):
        calls = [
            0, 501,
            0, 5,
            1, 100, 20, 4,
            2, 0, 12,
            3, 0, 1000, 24000,
            4, 5, 0, 600,
            5, 3,
            6, 0, 200,
            7, 0,
            8, 0,
            9, 0, 0,
            10, 0, 0, 8, 8, 100, 96, 104, 95, 105, 100, 100, 100,
            10, 0, 0, 5, 8, 100, 101, 99, 102, 100, 100, 0, 4294967295,
            11, 0,
            12, 0,
            13, 0,
            13, 0,
        ]
        self.assertEqual(answers(calls), [
            1, -22,
            1, 0,
            1, 0,
            1, 0,
            2, 0, 23880,
            2, 1, 11940,
            1, 1600,
            1, 1800,
            1, 1,
            3, 0, 0, 0,
            2, 0, 0,
            1, 6,
            1, 5,
            1, 6,
            3, 1, 1, 102,
            1, 1,
            1, -6,
        ])

    def test_a_refusal_stands_alone(self):
        for call in ([3, 6, 1, 1], [4, 0, 0, 1], [8, 0], [9, 0, 0], [12, 0]):
            self.assertEqual(answers([0, 0] + call), [1, 0, 1, -2])

    def test_the_list_stays_as_it_was(self):
        calls = in_one_list(3, 300)
        kept = list(calls)
        answers(calls)
        self.assertEqual(calls, kept)

    def test_a_list_that_cannot_be_changed(self):
        calls = in_one_list(4, 300)
        self.assertEqual(answers(Unchanged(calls)), answers(calls))

    def test_two_times_know_nothing_of_each_other(self):
        first = in_one_list(5, 300)
        second = in_one_list(6, 300)
        alone = answers(list(second))
        told = answers(list(first))
        self.assertEqual(answers(list(second)), alone)
        self.assertEqual(answers(list(first)), told)
        self.assertEqual(answers([0, 0, 7, 0]), [1, 0, 1, -2])

    def test_what_is_given_back_is_the_callers(self):
        told = answers([0, 0, 8, 0])
        told.append(7)
        self.assertEqual(answers([0, 0, 8, 0]), [1, 0, 1, -2])

    def test_a_thousand_calls(self):
        calls = [begin(0), kind(2, 24, 1), die(0, 1000), add(100000, 0)] + [strike(0, 0, [2] * 8)] * 996
        told = answers([number for call in calls for number in call])
        self.assertEqual(told[:8], [1, 0] * 3 + [1, 100000])
        self.assertEqual(told[8:], [1, 8] * 7 + [1, 4] + [1, 0] * 988)

    def test_many_plans(self):
        calls = [begin(0), kind(1, 23, 0)] + [bring(0, 99990 + at, 7 * at + 1) for at in range(10)]
        calls += [plan(0, 0), plan(0, 2000000)] * 20
        told = answers([number for call in calls for number in call])
        self.assertEqual(told[-6:], told[-12:-6])

    def test_only_refused_begins(self):
        self.assertEqual(answers([0, TOP, 0, 501]), [1, -22, 1, -22])

    def test_whole_numbers_only(self):
        calls = in_one_list(7, 400)
        told = answers(calls)
        self.assertIs(type(told), list)
        self.assertEqual({type(number) for number in told}, {int})


class Unchanged(list):
    """A list that refuses to be changed, not for a while either."""

    def refuse(self, *given):
        raise AssertionError("what was handed in is changed")

    append = extend = insert = pop = remove = clear = sort = reverse = refuse
    __setitem__ = __delitem__ = __iadd__ = __imul__ = refuse

"""The interface: how calls and answers stand in one list, and that nothing is kept or changed."""

import time
import unittest

from tests.helper import TOP, begin, kind, die, add, strike, bring, plan, break_box, pay, back, again, run
from tests.helper import all_that_tells, one_by_one
from tests.sessions import in_one_list
from wholemint.mint import answers


class Interface(unittest.TestCase):
    def test_each_call_in_one_list(self):
        calls = [
            0, 501,
            0, 5,
            1, 100, 20, 4,
            2, 0, 12,
            3, 0, 1000, 24000,
            4, 5, 0, 600,
            5, 3,
            6, 0, 200,
            7, 0,
            8, 0,
            9, 0, 0,
            10, 0, 0, 8, 8, 100, 96, 104, 95, 105, 100, 100, 100,
            10, 0, 0, 5, 8, 100, 101, 99, 102, 100, 100, 0, 4294967295,
            11, 0,
            12, 0,
            13, 0,
            13, 0,
            17, 0,
            18, 0,
            15, 0, 0, 2,
            16, 5,
            10, 0, 0, 8, 8, 100, 100, 100, 100, 100, 100, 100, 100,
            21,
            19,
            3, 1, 40, 0,
            20,
            22,
            23,
            26,
            24,
            25,
            25,
            14, 0,
            24, 24, 24, 24,
            14, 0,
            26,
        ]
        self.assertEqual(answers(calls), [
            1, -22,
            1, 0,
            1, 0,
            1, 0,
            2, 0, 23880,
            2, 1, 11940,
            1, 1600,
            1, 1800,
            1, 1,
            3, 0, 0, 0,
            2, 0, 0,
            1, 6,
            1, 5,
            1, 6,
            3, 1, 1, 102,
            1, 1,
            1, -6,
            4, 11, 1102, 0, 11,
            2, 2, 1,
            2, 19880, 196,
            1, 11940,
            1, 1,
            2, 1, 1,
            2, 598, 11960,
            2, 0, 0,
            21, 1, 40, 0, 0, 0, 0, 0, 0, 0, 0, 0, 0, 0, 0, 0, 0, 0, 0, 0, 0, 0,
            5, 1644, 32080, 36000, 0, 3920,
            3, 31820, 180, 4000,
            6, 1, 1, 5, 1, 12, 0,
            1, 11,
            1, 0,
            1, -2,
            1, -6,
            1, 11, 1, 10, 1, 9, 1, 8,
            1, 1,
            6, 1, 1, 5, 0, 9, 0,
        ])

    def test_how_many_numbers_each_call_answers(self):
        before = [0, 0, 1, 100, 24, 0, 2, 0, 99, 3, 0, 900, 21600, 6, 9000, 0]
        before += [10, 0, 0, 8, 8] + [100] * 8 + [10, 0, 0, 8, 8] + [100] * 8
        for call, numbers in (([14, 0], 1), ([15, 0, 0, 1], 2), ([16, 0], 1), ([17, 0], 4), ([18, 0], 2), ([19], 2),
                              ([20], 21), ([21], 2), ([22], 5), ([23], 3), ([24], 1), ([24, 25], 1), ([26], 6),
                              ([0, 1], 1), ([1, 1, 1, 0], 1), ([2, 0, 1], 1), ([3, 0, 1, 1], 2), ([4, 0, 0, 1], 2),
                              ([5, 1], 1), ([6, 1, 1], 1), ([7, 0], 1), ([8, 0], 3), ([9, 0, 1], 2),
                              ([10, 0, 0, 1, 8] + [100] * 8, 1), ([11, 0], 1), ([12, 0], 3), ([13, 0], 1)):
            told = one_by_one(answers(before + call))[-1]
            self.assertGreaterEqual(told[0], 0, call)
            self.assertEqual(len(told), numbers, call)

    def test_a_refusal_stands_alone(self):
        for call in ([3, 6, 1, 1], [4, 0, 0, 1], [8, 0], [9, 0, 0], [12, 0], [15, 0, 0, 1], [17, 0], [18, 0], [24],
                     [25]):
            self.assertEqual(answers([0, 0] + call), [1, 0, 1, -2])

    def test_the_list_stays_as_it_was(self):
        calls = in_one_list(3, 300)
        kept = list(calls)
        answers(calls)
        self.assertEqual(calls, kept)

    def test_a_list_that_cannot_be_changed(self):
        calls = in_one_list(4, 300)
        self.assertEqual(answers(Unchanged(calls)), answers(calls))

    def test_two_times_know_nothing_of_each_other(self):
        first = in_one_list(5, 300)
        second = in_one_list(6, 300)
        alone = answers(list(second))
        told = answers(list(first))
        self.assertEqual(answers(list(second)), alone)
        self.assertEqual(answers(list(first)), told)
        self.assertEqual(answers([0, 0, 7, 0]), [1, 0, 1, -2])
        self.assertEqual(answers([0, 0, 24, 25, 22]), [1, 0, 1, -2, 1, -2, 5, 0, 0, 0, 0, 0])

    def test_what_is_given_back_is_the_callers(self):
        told = answers([0, 0, 8, 0])
        told.append(7)
        self.assertEqual(answers([0, 0, 8, 0]), [1, 0, 1, -2])

    def test_a_thousand_calls(self):
        calls = [begin(0), kind(2, 24, 1), die(0, 1000), add(100000, 0)] + [strike(0, 0, [2] * 8)] * 996
        told = answers([number for call in calls for number in call])
        self.assertEqual(told[:8], [1, 0] * 3 + [1, 100000])
        self.assertEqual(told[8:], [1, 8] * 7 + [1, 4] + [1, 0] * 988)

    def test_only_refused_begins(self):
        self.assertEqual(answers([0, TOP, 0, 501]), [1, -22, 1, -22])

    def test_whole_numbers_only(self):
        calls = in_one_list(7, 400)
        told = answers(calls)
        self.assertIs(type(told), list)
        self.assertEqual({type(number) for number in told}, {int})


class Unchanged(list):
    """A list that refuses to be changed, not for a while either."""

    def refuse(self, *given):
        raise AssertionError("what was handed in is changed")

    append = extend = insert = pop = remove = clear = sort = reverse = refuse
    __setitem__ = __delitem__ = __iadd__ = __imul__ = refuse


class Waiting(unittest.TestCase):
    """Lists of 1,000 calls, of the longest sorts: a person would wait so long, even on a slow machine."""

    def in_time(self, calls):
        self.assertEqual(len(calls), 1000)
        start = time.perf_counter()
        told = run(calls)
        self.assertLess(time.perf_counter() - start, 60)
        return told

    def test_plans(self):
        calls = [begin(0), kind(1, 23, 0)] + [bring(0, 99990 + at, 7 * at + 1) for at in range(10)]
        told = self.in_time(calls + [plan(0, 0), plan(0, 2000000)] * 494)
        self.assertEqual(told[12:], told[12:14] * 494)

    def test_changes_of_a_full_mint(self):
        calls = full_mint()
        told = self.in_time(calls + [add(0, 1)] * (1000 - len(calls)))
        self.assertEqual(told[-1][0] - told[len(calls)][0], 999 - len(calls))

    def test_back_and_again(self):
        calls = full_mint()
        calls += [add(0, 1)] * (1000 - len(calls) - 720) + ([back()] * 30 + [again()] * 30) * 12
        told = self.in_time(calls)
        self.assertEqual(told[-720:], ([[left] for left in range(29, -1, -1)] * 2) * 12)

    def test_all_that_tells(self):
        calls = full_mint()
        tells = all_that_tells()
        calls += tells * ((1000 - len(calls)) // len(tells))
        calls += [again()] * (1000 - len(calls))
        told = self.in_time(calls)
        self.assertEqual(told[-1], [-2])

    def test_striking_breaking_and_paying(self):
        calls = [begin(0), kind(2, 24, 1), bring(0, 100000, 2400000), add(100000, 0)]
        for number in range(6):
            calls.append(die(0, 1000))
        for turn in range(247):
            calls += [strike(0, turn // 42, [1] * 8), strike(0, turn // 42, [3] * 2), break_box(0), pay(0, 0, 9)]
        told = self.in_time(calls + [[17, 0], [22]])
        self.assertEqual(told[-2], [0, 0, 0, 2470])
        self.assertEqual(told[-1], [200000 - 247 * 11, (200000 - 247 * 11) * 24, 2400000, 2400000, 247 * 11 * 24])


def full_mint():
    """4 kinds with 60 coins each, 6 dies, 10 lots."""
    calls = [begin(1)] + [kind(100, 20, 5)] * 4 + [die(k, 1000) for k in (0, 1, 2, 3, 3, 3)]
    calls += [bring(at % 6, 100 + at, 77 * at) for at in range(10)] + [add(50000, 10000)]
    return calls + [strike(k, k, [100] * 8) for k in range(4) for turn in range(8)]

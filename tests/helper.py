"""Calls written by their names, and what they answer, a list each."""

import unittest

from wholemint.mint import answers

TOP = 4294967295


def begin(keeps):
    return [0, keeps]


def kind(grains, fine, remedy):
    return [1, grains, fine, remedy]


def die(k, n):
    return [2, k, n]


def bring(p, grains, carats):
    return [3, p, grains, carats]


def old(p, k, grains):
    return [4, p, k, grains]


def melt(lots):
    return [5, lots]


def add(gold, copper):
    return [6, gold, copper]


def fits(k):
    return [7, k]


def need(k):
    return [8, k]


def plan(k, least):
    return [9, k, least]


def strike(k, number, weights, n=None):
    """A row of 8: what is behind the weights is filled with 1, which n keeps out of sight."""
    row = list(weights) + [1] * (8 - len(weights))
    return [10, k, number, len(weights) if n is None else n, 8] + row


def enough(k):
    return [11, k]


def trial(k):
    return [12, k]


def open_box(k):
    return [13, k]


def break_box(k):
    return [14, k]


def pay(p, k, n):
    return [15, p, k, n]


def credit(p):
    return [16, p]


def stock(k):
    return [17, k]


def off(k):
    return [18, k]


def pot():
    return [19]


def lots():
    return [20]


def worn():
    return [21]


def ledger():
    return [22]


def claims():
    return [23]


def back():
    return [24]


def again():
    return [25]


def state():
    return [26]


def one_by_one(told):
    lists = []
    at = 0
    while at < len(told):
        end = at + 1 + told[at]
        if end > len(told):
            raise ValueError("a count that goes beyond the end")
        lists.append(told[at + 1:end])
        at = end
    return lists


def run(calls):
    """What each of the calls answers, in order."""
    handed = [number for call in calls for number in call]
    kept = list(handed)
    told = answers(handed)
    if handed != kept:
        raise AssertionError("what was handed in was changed")
    if any(type(number) is not int for number in told):
        raise AssertionError("something that is no whole number was answered")
    return one_by_one(told)


class MintCase(unittest.TestCase):
    def last(self, *calls):
        """What the last of the calls answers, on a new mint that keeps nothing."""
        return run([begin(0)] + list(calls))[-1]

    def answered(self, before, *pairs):
        """Behind the calls of before, each pair's call answers what stands beside it."""
        calls = list(before) + [call for call, told in pairs]
        told = run(calls)[len(before):]
        for (call, wanted), got in zip(pairs, told, strict=True):
            self.assertEqual(got, wanted, call)

    def left_as_it_was(self, before, refused, number):
        """The refused call answers the number alone, and what is looked at behind it is as without it."""
        for looks in (all_that_tells() + strikes_with_all(), agains_and_backs()):
            without = run(list(before) + looks)[len(before):]
            with_it = run(list(before) + [refused] + looks)[len(before):]
            self.assertEqual(with_it[0], [number], refused)
            self.assertEqual(with_it[1:], without, refused)


def all_that_tells():
    """Every call that only tells, of every kind and person that there may be, and of one that can't be."""
    looks = [pot(), lots(), worn(), ledger(), claims(), state()]
    for k in range(5):
        looks += [fits(k), need(k), plan(k, 0), plan(k, 1000), enough(k), trial(k), stock(k), off(k)]
    for p in range(7):
        looks.append(credit(p))
    return looks


def strikes_with_all():
    """Calls that change all there is, so that their answers tell what no other call does: how far dies are worn."""
    looks = []
    for k in range(4):
        for number in range(7):
            looks.append(strike(k, number, [100] * 8))
        looks += [enough(k), trial(k), open_box(k)]
    looks += [bring(0, 1, 1), kind(1, 24, 0), die(0, 1), add(0, 1)]
    for place in range(10):
        looks.append(melt(1 << place))
    for k in range(4):
        looks.append(need(k))
    return looks


def agains_and_backs():
    """All that can be done again, then all that can be taken back, step by step."""
    short = [pot(), lots(), worn(), ledger(), claims(), state()] + [stock(k) for k in range(4)]
    return ([again()] + short) * 4 + ([back()] + short) * 31

"""Whole sessions: each answer as the model tells it, and what holds at each step."""

import unittest

from tests.helper import all_that_tells, run
from tests.helper import begin, kind, die, add, strike, pay, bring, open_box, stock
from tests.helper import back, again, claims, credit, ledger, lots, need, pot, state, trial, worn
from tests.sessions import Session
from wholemint.changes import Book
from wholemint.mint import answer_call

SEEDS = range(80)
LENGTH = 180
CHANGES = (1, 2, 3, 4, 5, 6, 10, 13, 14, 15)


class AgainstTheModel(unittest.TestCase):
    def test_each_answer(self):
        for seed in SEEDS:
            made = Session(seed, LENGTH)
            for call, told, wanted in zip(made.calls, run(made.calls), made.told, strict=True):
                with self.subTest(seed=seed, call=call):
                    self.assertEqual(told, wanted)

    def test_lists_of_1000_calls(self):
        for seed in range(200, 204):
            made = Session(seed, 1000)
            self.assertEqual(run(made.calls), made.told)

    def test_the_sessions_reach_each_answer(self):
        reached = {}
        for seed in SEEDS:
            made = Session(seed, LENGTH)
            for call, told in zip(made.calls, made.told, strict=True):
                reached.setdefault(call[0], set()).add(told[0] if told[0] < 0 else "done")
        wanted = {
            0: {-22, "done"}, 1: {-22, -28, "done"}, 2: {-2, -22, -28, "done"}, 3: {-2, -22, -28, "done"},
            4: {-2, -22, -28, "done"}, 5: {-2, -22, -28, "done"}, 6: {-22, -28, "done"}, 7: {-2, "done"},
            8: {-2, -33, "done"}, 9: {-2, -22, -33, "done"}, 10: {-2, -22, -13, -71, "done"}, 11: {-2, "done"},
            12: {-2, -6, "done"}, 13: {-2, -6, -33, "done"}, 14: {-2, -6, -28, "done"},
            15: {-2, -22, -12, -20, "done"}, 16: {-2, "done"}, 17: {-2, "done"}, 18: {-2, "done"}, 19: {"done"},
            20: {"done"}, 21: {"done"}, 22: {"done"}, 23: {"done"}, 24: {-2, "done"}, 25: {-2, "done"}, 26: {"done"},
        }
        for call in wanted:
            self.assertLessEqual(wanted[call], reached[call], call)


class Books:
    """What an onlooker writes down of each change: grains and carats brought and added, what was paid, dies."""

    def __init__(self):
        self.fine = []
        self.brought = self.added = self.paid = (0, 0)
        self.grown = self.lessened = 0
        self.dies = []

    def after(self, call, told):
        """Another one, so that the earlier stays to be looked up when the change is taken back."""
        other = Books()
        other.__dict__.update(self.__dict__)
        if call[0] == 1:
            other.fine = self.fine + [call[2]]
        if call[0] == 2:
            other.dies = self.dies + [call[2]]
        if call[0] in (3, 4):
            metal = (call[2], call[3]) if call[0] == 3 else (call[3], call[3] * self.fine[call[2]])
            other.brought = summed(self.brought, metal)
            other.grown = self.grown + told[1]
        if call[0] == 6:
            other.added = summed(self.added, (call[1] + call[2], 24 * call[1]))
        if call[0] == 10:
            other.dies = [left - told[0] if number == call[2] else left for number, left in enumerate(self.dies)]
        if call[0] == 15:
            other.paid = summed(self.paid, (told[1], told[1] * self.fine[call[2]]))
        return other


def summed(metal, other):
    return metal[0] + other[0], metal[1] + other[1]


class WhatHolds(unittest.TestCase):
    def look(self, told, books):
        """The answers of what_to_look_at(), held against what the onlooker wrote down."""
        held, claimed, there, melted, said = told[:5]
        self.assertEqual(held[2:], [books.brought[1], books.added[1], books.paid[1]])
        self.assertEqual(summed((held[0], held[1]), books.paid), summed(books.brought, books.added))
        self.assertEqual(sum(claimed), held[2])
        self.assertEqual(sum(credit_told[0] for credit_told in told[5:11]), claimed[0])
        self.assertEqual(claimed[0] + claimed[2], books.grown)
        stocks = [stock_told for stock_told in told[11:15] if stock_told[0] >= 0]
        boxes = [trial_told if trial_told[0] >= 0 else [0, 0, 0] for trial_told in told[15:19]]
        coins = [(stocks[k][1] + boxes[k][2], books.fine[k]) for k in range(len(stocks))]
        self.assertEqual(sum(there[1::2]) + melted[0] + sum(weight for weight, fine in coins), held[0])
        self.assertEqual(sum(there[2::2]) + melted[1] + sum(weight * fine for weight, fine in coins), held[1])
        self.assertEqual(said[0], len(stocks))
        self.assertEqual(told[19], [books.dies.count(0), sum(1 << at for at, n in enumerate(books.dies) if n == 0)])

    def test_at_each_step(self):
        what = [ledger(), claims(), lots(), pot(), state()] + [credit(p) for p in range(6)]
        what += [stock(k) for k in range(4)] + [trial(k) for k in range(4)] + [worn()]
        for seed in range(100, 140):
            calls = [begin(seed)] + Session(seed, 60).calls[1:]
            told = run([each for call in calls for each in [call] + what])
            before, now, behind = [], Books(), []
            for at, call in enumerate(calls):
                answer = told[at * 21]
                if call[0] == 0 and answer[0] >= 0:
                    before, now, behind = [], Books(), []
                if call[0] in CHANGES and answer[0] >= 0:
                    before, now, behind = before + [now], now.after(call, answer), []
                if call[0] == 24 and answer[0] >= 0:
                    behind, now = behind + [now], before.pop()
                if call[0] == 25 and answer[0] >= 0:
                    before, now = before + [now], behind.pop()
                self.look(told[at * 21 + 1:(at + 1) * 21], now)


class CoinsAndDies(unittest.TestCase):
    def look_at_coins(self, kinds):
        for made in kinds:
            self.assertLessEqual(len(made.stock) + len(made.box), 60)
            for weight in made.stock + made.box:
                self.assertLessEqual(abs(weight - made.grains), made.remedy)

    def test_within_the_remedy_and_dies_wear(self):
        for seed in range(140, 170):
            book = Book()
            for call in Session(seed, 150).calls:
                left = [made.left for made in book.mint.dies]
                told = answer_call(book, call[0], call[1:])
                self.look_at_coins(book.mint.kinds)
                if call[0] == 10 and told[0] > 0:
                    left[call[2]] -= told[0]
                if call[0] not in (0, 2, 24, 25):
                    self.assertEqual([made.left for made in book.mint.dies], left)


class BackAndAgain(unittest.TestCase):
    def test_as_before_and_as_after(self):
        """Each change of a session is taken back and done again, with all that tells ahead, between and behind."""
        tells = all_that_tells()
        for seed in range(300, 306):
            made = Session(seed, 90)
            for at, call in enumerate(made.calls):
                if call[0] not in CHANGES or made.told[at][0] < 0:
                    continue
                steps = made.calls[:at] + tells + [call] + tells + [back()] + tells + [again()] + tells
                told = run(steps)[at:]
                length = len(tells)
                before, after = told[:length], told[length + 1:2 * length + 1]
                between, behind = told[2 * length + 2:3 * length + 2], told[3 * length + 3:]
                self.assertEqual(but_the_state(between), but_the_state(before))
                self.assertEqual(behind, after)
                self.assertEqual(between[5][4:], [after[5][4] - 1, 1])


def but_the_state(told):
    """Without the counts of changes: of 30 the first is forgotten, and can't come back."""
    return told[:5] + [told[5][:4]] + told[6:]


class Order(unittest.TestCase):
    def test_stock_and_box_each_behind_those_that_are_there(self):
        weights = list(range(90, 114))
        calls = [begin(0), kind(100, 24, 30), die(0, 1000), add(100000, 0), bring(0, 100000, 2400000)]
        calls += [strike(0, 0, weights[at:at + 8]) for at in range(0, 24, 8)]
        calls += [open_box(0), strike(0, 0, [100])]
        wanted = weights[:9] + weights[10:19] + weights[20:] + [99, 109, 100]
        told = run(calls + [pay(0, 0, 1)] * 25)
        self.assertEqual([one[1] for one in told[-25:]], wanted)

    def test_dies_keep_striking_one_less(self):
        calls = [begin(0), kind(1, 24, 0), die(0, 20), add(100, 0), strike(0, 0, [1] * 8), back(),
                 strike(0, 0, [1] * 8),
                 strike(0, 0, [1] * 8), back(), again(), strike(0, 0, [1] * 8), strike(0, 0, [1] * 8), need(0)]
        self.assertEqual(run(calls)[-4:], [[0], [4], [0], [0, 0, 0]])

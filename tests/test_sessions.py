"""Whole sessions: each answer as the model tells it, and what holds at each step."""

import unittest

from tests.helper import run
from tests.sessions import Session
from wholemint.mint import answer_call
from wholemint.state import Mint


class AgainstTheModel(unittest.TestCase):
    def test_each_answer(self):
        for seed in range(60):
            made = Session(seed, 150)
            for call, told, wanted in zip(made.calls, run(made.calls), made.told, strict=True):
                with self.subTest(seed=seed, call=call):
                    self.assertEqual(told, wanted)

    def test_the_sessions_reach_each_answer(self):
        reached = {}
        for seed in range(60):
            made = Session(seed, 150)
            for call, told in zip(made.calls, made.told, strict=True):
                reached.setdefault(call[0], set()).add(told[0] if told[0] < 0 else "done")
        wanted = {
            0: {-22, "done"}, 1: {-22, -28, "done"}, 2: {-2, -22, -28, "done"}, 3: {-2, -22, -28, "done"},
            4: {-2, -22, -28, "done"}, 5: {-2, -22, "done"}, 6: {-22, "done"}, 7: {-2, "done"},
            8: {-2, -33, "done"}, 9: {-2, -22, -33, "done"}, 10: {-2, -22, -13, -71, "done"}, 11: {-2, "done"},
            12: {-2, -6, "done"}, 13: {-2, -6, -33, "done"},
        }
        for call in wanted:
            self.assertLessEqual(wanted[call], reached[call], call)


class WhatHolds(unittest.TestCase):
    def setUp(self):
        self.mint = Mint()
        self.grains = 0
        self.carats = 0
        self.brought = 0
        self.owed = [0] * 6

    def count(self, call, told):
        """What was brought in and added, kept beside the mint."""
        if call[0] == 0:
            self.grains = self.carats = self.brought = 0
            self.owed = [0] * 6
        if call[0] == 6:
            self.grains += call[1] + call[2]
            self.carats += 24 * call[1]
        if call[0] in (3, 4):
            carats = call[3] if call[0] == 3 else call[3] * self.mint.kinds[call[2]].fine
            self.grains += call[2] if call[0] == 3 else call[3]
            self.carats += carats
            self.brought += carats
            self.owed[call[1]] += told[1]

    def look_at_each_carat(self):
        mint = self.mint
        coins = [(weight, kind.fine) for kind in mint.kinds for weight in kind.stock + kind.box]
        metals = mint.lots + [mint.pot]
        self.assertEqual(sum(metal.grains for metal in metals) + sum(weight for weight, fine in coins), self.grains)
        self.assertEqual(sum(metal.carats for metal in metals) + sum(weight * fine for weight, fine in coins),
                         self.carats)

    def look_at_claims(self):
        self.assertEqual(self.mint.credit, self.owed)
        self.assertEqual(sum(self.mint.credit) + self.mint.kept, self.brought)

    def look_at_coins(self):
        for kind in self.mint.kinds:
            self.assertEqual(len(kind.stock) + len(kind.box), kind.struck)
            for weight in kind.stock + kind.box:
                self.assertLessEqual(abs(weight - kind.grains), kind.remedy)

    def test_at_each_step(self):
        for seed in range(100, 130):
            self.setUp()
            for call in Session(seed, 120).calls:
                worn = [die.left for die in self.mint.dies]
                told = answer_call(self.mint, call[0], call[1:])
                if told[0] >= 0:
                    self.count(call, told)
                if call[0] == 10 and told[0] > 0:
                    worn[call[2]] -= told[0]
                if call[0] not in (0, 2):
                    self.assertEqual([die.left for die in self.mint.dies], worn)
                self.look_at_each_carat()
                self.look_at_claims()
                self.look_at_coins()


class Order(unittest.TestCase):
    def test_stock_and_box_each_behind_those_that_are_there(self):
        mint = Mint()
        for call in ([0, 0], [1, 100, 24, 30], [2, 0, 1000], [6, 100000, 0]):
            answer_call(mint, call[0], call[1:])
        weights = list(range(90, 114))
        for at in range(0, 24, 8):
            answer_call(mint, 10, [0, 0, 8, 8] + weights[at:at + 8])
        stock = weights[:9] + weights[10:19] + weights[20:]
        self.assertEqual(mint.kinds[0].stock, stock)
        self.assertEqual(mint.kinds[0].box, [99, 109])
        self.assertEqual(answer_call(mint, 13, [0]), [2])
        self.assertEqual(mint.kinds[0].stock, stock + [99, 109])
        self.assertEqual(mint.kinds[0].box, [])
        answer_call(mint, 10, [0, 0, 1, 8] + [100] * 8)
        self.assertEqual(mint.kinds[0].stock, stock + [99, 109, 100])

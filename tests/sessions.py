"""Long sessions, made by chance from a seed, so that each run of the tests has the same ones."""

import random

from tests.helper import TOP
from tests.helper import begin, kind, die, bring, old, melt, add, fits, need, plan, strike, enough, trial, open_box
from tests.helper import break_box, pay, credit, stock, off, pot, lots, worn, ledger, claims, back, again, state
from tests.model import Model

ODD = (0, 1, 2, 5, 6, 7, 8, 9, 24, 25, 100, 101, 500, 501, 1000, 1001, 1023, 1024, 10000, 10001, 100000, 100001,
       2000000, 2000001, TOP)
HOW_MANY_NUMBERS = (1, 3, 2, 3, 3, 1, 2, 1, 1, 2, 0, 1, 1, 1, 1, 3, 1, 1, 1, 0, 0, 0, 0, 0, 0, 0, 0)


class Session:
    """Calls by chance, and what the model answers to each; what the model has tells which calls do something."""

    def __init__(self, seed, length):
        self.chance = random.Random(seed)
        self.model = Model()
        self.calls = []
        self.told = []
        self.start()
        while len(self.calls) < length:
            self.go_on()
        self.calls = self.calls[:length]
        self.told = self.told[:length]

    def do(self, call):
        self.calls.append(call)
        self.told.append(self.model.answer(call))

    def start(self):
        if self.chance.random() < 0.5:
            self.do(begin(501))
        self.do(begin(self.chance.choice((0, 1, 7, 250, 333, 500))))
        for k in range(self.chance.randint(1, 4)):
            self.do(self.fair_kind())
        for number in range(self.chance.randint(1, 5)):
            self.do(self.fair_die())

    def go_on(self):
        turn = self.chance.random()
        if turn < 0.08 or not self.model.kinds:
            self.do(self.odd_call() if turn < 0.08 else self.fair_kind())
        elif len(self.model.dies) < 2:
            self.do(self.fair_die())
        elif turn < 0.2:
            self.make_fine_and_strike()
        elif turn < 0.24:
            self.go_back_and_forth()
        elif turn < 0.28:
            self.do(self.fair_melt())
        elif turn < 0.29:
            self.fill_places_or_pot()
        elif turn < 0.34:
            self.do(self.fair_pay(self.some_kind()))
        else:
            self.do(self.fair_call())

    def some_kind(self):
        return self.chance.randrange(len(self.model.kinds))

    def fair_kind(self):
        grains = self.chance.choice((3, 10, 60, 100))
        fine = self.chance.choice((1, 7, 12, 16, 20, 22, 23, 24))
        return kind(grains, fine, self.chance.randint(0, grains // 3))

    def fair_die(self):
        return die(self.some_kind(), self.chance.choice((0, 1, 8, 50, 1000, 1001)))

    def make_fine_and_strike(self):
        k = self.some_kind()
        told = self.model.need(k)
        if told[0] > 0 and max(told) <= 100000:
            self.do(add(told[1], told[2]))
        fine = self.model.kinds[k]["fine"]
        self.do(add(fine * 40, (24 - fine) * 40))
        for turn in range(self.chance.randint(1, 9)):
            self.do(self.fair_strike(k))

    def go_back_and_forth(self):
        """Mostly all is done again, so that sessions come far; now and then something else is done first."""
        steps = 33 if self.chance.random() < 0.05 else self.chance.choice((1, 1, 2, 3, 5, 8))
        for turn in range(steps):
            self.do(back())
        if self.chance.random() < 0.2:
            self.do(self.fair_call() if self.model.kinds else self.fair_kind())
        for turn in range(self.chance.choice((1, steps - 1, steps, steps, steps + 1))):
            self.do(again())

    def fair_melt(self):
        there = [place for place in range(10) if self.model.lots[place] is not None]
        return melt(sum(1 << place for place in there if self.chance.random() < 0.5))

    def fill_places_or_pot(self):
        k = self.some_kind()
        if self.chance.random() < 0.5:
            for place in range(11):
                self.do(old(self.chance.randrange(6), k, self.chance.randint(1, 300)))
        else:
            fine = self.model.kinds[k]["fine"]
            while self.model.grains < 1900000:
                self.do(add(fine * 4000, (24 - fine) * 4000))
            self.do(add(0, 2000001 - self.model.grains))
            self.do(add(0, 2000000 - self.model.grains))
            self.do(break_box(k))

    def fair_pay(self, k):
        there = len(self.model.kinds[k]["stock"])
        rich = [p for p in range(6) if self.model.owed(p) > 0]
        p = self.chance.choice(rich) if rich and self.chance.random() < 0.8 else self.chance.randint(0, 6)
        return pay(p, k, self.chance.choice((0, 1, 1, 2, 5, there, there, there + 1)))

    def fair_strike(self, k):
        grains = self.model.kinds[k]["grains"]
        remedy = self.model.kinds[k]["remedy"]
        weights = [self.chance.randint(max(0, grains - remedy - 1), grains + remedy + 1) for at in range(8)]
        own = [number for number, made in enumerate(self.model.dies) if made[0] == k]
        number = self.chance.choice(own) if own and self.chance.random() < 0.9 else self.chance.randint(0, 6)
        return strike(k, number, weights, self.chance.choice((0, 1, 3, 7, 8, 8, 8, 8, 8, 9)))

    def fair_call(self):
        chance = self.chance
        k = self.some_kind()
        grains = chance.randint(1, 900)
        carats = chance.choice((24 * grains, self.model.kinds[k]["fine"] * grains, chance.randint(0, 24 * grains)))
        calls = (lambda: bring(chance.randrange(6), grains, carats), lambda: bring(chance.randrange(6), 300, carats),
                 lambda: bring(chance.randrange(6), grains, carats), lambda: old(chance.randrange(6), k, grains),
                 lambda: old(chance.randrange(7), k, chance.choice((0, 1, 100000, 100001))),
                 lambda: melt(1 << chance.randrange(10)), lambda: melt(3 << chance.randrange(9)),
                 lambda: add(chance.randint(0, 50), chance.randint(0, 50)),
                 lambda: fits(k), lambda: need(k), lambda: plan(k, chance.randint(0, 9000)),
                 lambda: plan(k, chance.choice((0, 2000000, 2000001))), lambda: self.fair_strike(k),
                 lambda: enough(k), lambda: trial(k), lambda: open_box(k), lambda: break_box(k), self.fair_die,
                 lambda: credit(chance.randrange(7)), lambda: stock(k), lambda: off(k), pot, lots, worn, ledger, claims,
                 back, again, state)
        return chance.choice(calls)()

    def odd_call(self):
        call = self.chance.randrange(27)
        if call == 0 and self.chance.random() < 0.7:
            return self.fair_kind() if self.model.kinds else begin(TOP)
        if call == 10:
            return strike(self.odd(), self.odd(), [self.odd() for at in range(8)], self.odd())
        return [call] + [self.odd() for at in range(HOW_MANY_NUMBERS[call])]

    def odd(self):
        return self.chance.choice(ODD) if self.chance.random() < 0.5 else self.chance.randint(0, 4)


def in_one_list(seed, length):
    return [number for call in Session(seed, length).calls for number in call]

"""Another mint, written as the document's words go, slow and by trying: the program is held against it."""

EMPTY = None
NAMES = ("begin", "kind", "die", "bring", "old", "melt", "add", "fits", "need", "plan", "strike", "enough", "trial",
         "open_box", "break_box", "pay", "credit", "stock", "off", "pot", "all_lots", "worn", "ledger", "claims",
         "back",
         "again", "state")
CHANGES = ("kind", "die", "bring", "old", "melt", "add", "strike", "open_box", "break_box", "pay")


class Model:
    """It keeps no earlier mint: to take a change back it begins anew, and makes all the others once more."""

    def answer(self, call):
        told = getattr(self, NAMES[call[0]])(*call[1:])
        if NAMES[call[0]] in CHANGES and told[0] >= 0:
            self.done.append(call)
            self.undone = []
            self.can_be_taken_back = min(30, self.can_be_taken_back + 1)
        return told

    def begin(self, keeps):
        if keeps > 500:
            return [-22]
        self.done, self.undone, self.can_be_taken_back = [], [], 0
        self.make_new(keeps)
        return [0]

    def make_new(self, keeps):
        self.keeps = keeps
        self.kinds, self.dies, self.lots = [], [], [EMPTY] * 10
        self.grains = self.carats = 0
        self.brought = {p: [] for p in range(6)}
        self.paid = {p: [] for p in range(6)}
        self.gold = 0

    def make(self, call):
        getattr(self, NAMES[call[0]])(*call[1:])

    def back(self):
        if self.can_be_taken_back == 0:
            return [-2]
        self.can_be_taken_back -= 1
        self.undone.append(self.done.pop())
        self.make_new(self.keeps)
        for call in self.done:
            self.make(call)
        return [self.can_be_taken_back]

    def again(self):
        if self.undone == []:
            return [-2]
        self.can_be_taken_back += 1
        self.done.append(self.undone.pop())
        self.make(self.done[-1])
        return [len(self.undone)]

    def state(self):
        there = sum(lot is not EMPTY for lot in self.lots)
        return [len(self.kinds), len(self.dies), self.keeps, there, self.can_be_taken_back, len(self.undone)]

    def kind(self, grains, fine, remedy):
        if grains not in range(1, 10001) or fine not in range(1, 25) or remedy not in range(0, min(101, grains)):
            return [-22]
        if len(self.kinds) >= 4:
            return [-28]
        self.kinds.append({"grains": grains, "fine": fine, "remedy": remedy, "ever": 0, "stock": [], "box": []})
        return [len(self.kinds) - 1]

    def die(self, k, n):
        if k not in range(len(self.kinds)):
            return [-2]
        if n not in range(1, 1001):
            return [-22]
        if len(self.dies) >= 6:
            return [-28]
        self.dies.append([k, n])
        return [len(self.dies) - 1]

    def lay(self, p, grains, carats):
        if EMPTY not in self.lots:
            return [-28]
        place = self.lots.index(EMPTY)
        self.lots[place] = (grains, carats)
        keeps = carats * self.keeps // 1000
        if keeps * 1000 != carats * self.keeps:
            keeps += 1
        self.brought[p].append((carats, carats - keeps))
        return [place, carats - keeps]

    def bring(self, p, grains, carats):
        if p not in range(6):
            return [-2]
        if grains not in range(1, 100001) or carats not in range(24 * grains + 1):
            return [-22]
        return self.lay(p, grains, carats)

    def old(self, p, k, grains):
        if p not in range(6) or k not in range(len(self.kinds)):
            return [-2]
        if grains not in range(1, 100001):
            return [-22]
        return self.lay(p, grains, grains * self.kinds[k]["fine"])

    def melt(self, lots):
        if lots not in range(1, 1024):
            return [-22]
        places = [place for place, bit in enumerate(reversed(f"{lots:010b}")) if bit == "1"]
        if EMPTY in [self.lots[place] for place in places]:
            return [-2]
        grains = sum(self.lots[place][0] for place in places)
        if self.grains + grains > 2000000:
            return [-28]
        for place in places:
            self.grains += self.lots[place][0]
            self.carats += self.lots[place][1]
            self.lots[place] = EMPTY
        return [self.grains]

    def add(self, gold, copper):
        if (gold, copper) == (0, 0) or max(gold, copper) > 100000:
            return [-22]
        if self.grains + gold + copper > 2000000:
            return [-28]
        self.grains += gold + copper
        self.carats += 24 * gold
        self.gold += gold
        return [self.grains]

    def fits(self, k):
        if k not in range(len(self.kinds)):
            return [-2]
        return [int(self.carats == self.kinds[k]["fine"] * self.grains)]

    def needed(self, grains, carats, fine):
        """By trying gold, from none on: 24 tries more than make it fine enough reach every rest there is."""
        gold = 0
        if carats < fine * grains:
            if fine == 24:
                return None
            gold = max(0, (fine * grains - carats) // (24 - fine) - 1)
        for gold in range(gold, gold + 50):
            if (carats + 24 * gold) % fine == 0:
                copper = (carats + 24 * gold) // fine - grains - gold
                if copper >= 0:
                    return gold, copper
        return None

    def need(self, k):
        if k not in range(len(self.kinds)):
            return [-2]
        what = self.needed(self.grains, self.carats, self.kinds[k]["fine"])
        return [-33] if what is None else [sum(what), what[0], what[1]]

    def plan(self, k, least):
        if k not in range(len(self.kinds)):
            return [-2]
        if least > 2000000:
            return [-22]
        there = [place for place in range(10) if self.lots[place] is not EMPTY]
        plans = []
        for choice in range(1 << len(there)):
            chosen = [place for at, place in enumerate(there) if choice >> at & 1]
            grains = self.grains + sum(self.lots[place][0] for place in chosen)
            carats = self.carats + sum(self.lots[place][1] for place in chosen)
            what = self.needed(grains, carats, self.kinds[k]["fine"])
            if what is not None and grains + sum(what) >= least:
                plans.append((sum(what), len(chosen), sum(1 << place for place in chosen)))
        return [min(plans)[0], min(plans)[2]] if plans else [-33]

    def strike(self, k, number, n, count, *weights):
        if k not in range(len(self.kinds)) or number not in range(len(self.dies)):
            return [-2]
        if n not in range(1, 9):
            return [-22]
        if self.dies[number][0] != k:
            return [-13]
        if self.fits(k) == [0]:
            return [-71]
        kind = self.kinds[k]
        struck = 0
        for weight in weights[:n]:
            lightest, heaviest = kind["grains"] - kind["remedy"], kind["grains"] + kind["remedy"]
            if (lightest <= weight <= heaviest and self.dies[number][1] > 0 and self.grains >= weight
                    and len(kind["stock"] + kind["box"]) < 60):
                self.grains -= weight
                self.carats -= weight * kind["fine"]
                self.dies[number][1] -= 1
                kind["ever"] += 1
                kind["box" if kind["ever"] % 10 == 0 else "stock"].append(weight)
                struck += 1
        return [struck]

    def enough(self, k):
        return [self.grains // self.kinds[k]["grains"]] if k in range(len(self.kinds)) else [-2]

    def trial(self, k):
        if k not in range(len(self.kinds)):
            return [-2]
        kind = self.kinds[k]
        if not kind["box"]:
            return [-6]
        coins, weight = len(kind["box"]), sum(kind["box"])
        passes = -coins * kind["remedy"] <= 2 * weight - 2 * coins * kind["grains"] <= coins * kind["remedy"]
        return [int(passes), coins, weight]

    def open_box(self, k):
        told = self.trial(k)
        if told[0] < 0:
            return told
        if told[0] == 0:
            return [-33]
        kind = self.kinds[k]
        kind["stock"], kind["box"] = kind["stock"] + kind["box"], []
        return [told[1]]

    def break_box(self, k):
        if k not in range(len(self.kinds)):
            return [-2]
        kind = self.kinds[k]
        if not kind["box"]:
            return [-6]
        if self.grains + sum(kind["box"]) > 2000000:
            return [-28]
        coins = len(kind["box"])
        while kind["box"]:
            weight = kind["box"].pop()
            self.grains += weight
            self.carats += weight * kind["fine"]
        return [coins]

    def owed(self, p):
        return sum(grew for carats, grew in self.brought[p]) - sum(price for price, carats in self.paid[p])

    def pay(self, p, k, n):
        if p not in range(6) or k not in range(len(self.kinds)):
            return [-2]
        if n == 0:
            return [-22]
        kind = self.kinds[k]
        if len(kind["stock"]) < n:
            return [-12]
        if n * kind["grains"] * kind["fine"] > self.owed(p):
            return [-20]
        weights = [kind["stock"].pop(0) for coin in range(n)]
        self.paid[p] += [(kind["grains"] * kind["fine"], weight * kind["fine"]) for weight in weights]
        return [self.owed(p), sum(weights)]

    def credit(self, p):
        return [self.owed(p)] if p in range(6) else [-2]

    def stock(self, k):
        if k not in range(len(self.kinds)):
            return [-2]
        kind = self.kinds[k]
        return [len(kind["stock"]), sum(kind["stock"]), len(kind["box"]), kind["ever"]]

    def off(self, k):
        if k not in range(len(self.kinds)):
            return [-2]
        kind = self.kinds[k]
        each = [weight - kind["grains"] for weight in kind["stock"] + kind["box"]]
        return [sum(each), 1] if sum(each) > 0 else [-sum(each), 0]

    def pot(self):
        return [self.grains, self.carats]

    def all_lots(self):
        metals = [(0, 0) if lot is EMPTY else lot for lot in self.lots]
        return [10 - self.lots.count(EMPTY)] + [number for metal in metals for number in metal]

    def worn(self):
        bits = "".join("1" if left == 0 else "0" for k, left in reversed(self.dies))
        return [bits.count("1"), int("0" + bits, 2)]

    def ledger(self):
        told = self.all_lots()
        coins = [(weight, kind["fine"]) for kind in self.kinds for weight in kind["stock"] + kind["box"]]
        grains = self.grains + sum(told[1::2]) + sum(weight for weight, fine in coins)
        carats = self.carats + sum(told[2::2]) + sum(weight * fine for weight, fine in coins)
        brought = sum(carats for p in range(6) for carats, grew in self.brought[p])
        paid = sum(carats for p in range(6) for price, carats in self.paid[p])
        return [grains, carats, brought, 24 * self.gold, paid]

    def claims(self):
        kept = sum(carats - grew for p in range(6) for carats, grew in self.brought[p])
        lessened = sum(price for p in range(6) for price, carats in self.paid[p])
        return [sum(self.owed(p) for p in range(6)), kept, lessened]

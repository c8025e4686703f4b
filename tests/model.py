"""Another mint, written as the document's words go, slow and by trying: the program is held against it."""

EMPTY = None
NAMES = ("begin", "kind", "die", "bring", "old", "melt", "add", "fits", "need", "plan", "strike", "enough", "trial",
         "open_box")


class Model:
    def answer(self, call):
        return getattr(self, NAMES[call[0]])(*call[1:])

    def begin(self, keeps):
        if keeps > 500:
            return [-22]
        self.keeps = keeps
        self.kinds, self.dies, self.lots = [], [], [EMPTY] * 10
        self.grains = self.carats = 0
        return [0]

    def kind(self, grains, fine, remedy):
        if grains not in range(1, 10001) or fine not in range(1, 25) or remedy not in range(0, min(101, grains)):
            return [-22]
        if len(self.kinds) >= 4:
            return [-28]
        self.kinds.append({"grains": grains, "fine": fine, "remedy": remedy, "ever": 0, "stock": [], "box": []})
        return [len(self.kinds) - 1]

    def die(self, k, n):
        if k not in range(len(self.kinds)):
            return [-2]
        if n not in range(1, 1001):
            return [-22]
        if len(self.dies) >= 6:
            return [-28]
        self.dies.append([k, n])
        return [len(self.dies) - 1]

    def lay(self, grains, carats):
        if EMPTY not in self.lots:
            return [-28]
        place = self.lots.index(EMPTY)
        self.lots[place] = (grains, carats)
        keeps = carats * self.keeps // 1000
        if keeps * 1000 != carats * self.keeps:
            keeps += 1
        return [place, carats - keeps]

    def bring(self, p, grains, carats):
        if p not in range(6):
            return [-2]
        if grains not in range(1, 100001) or carats not in range(24 * grains + 1):
            return [-22]
        return self.lay(grains, carats)

    def old(self, p, k, grains):
        if p not in range(6) or k not in range(len(self.kinds)):
            return [-2]
        if grains not in range(1, 100001):
            return [-22]
        return self.lay(grains, grains * self.kinds[k]["fine"])

    def melt(self, lots):
        if lots not in range(1, 1024):
            return [-22]
        places = [place for place, bit in enumerate(reversed(f"{lots:010b}")) if bit == "1"]
        if EMPTY in [self.lots[place] for place in places]:
            return [-2]
        grains = sum(self.lots[place][0] for place in places)
        if self.grains + grains > 2000000:
            return [-28]
        for place in places:
            self.grains += self.lots[place][0]
            self.carats += self.lots[place][1]
            self.lots[place] = EMPTY
        return [self.grains]

    def add(self, gold, copper):
        if (gold, copper) == (0, 0) or max(gold, copper) > 100000:
            return [-22]
        if self.grains + gold + copper > 2000000:
            return [-28]
        self.grains += gold + copper
        self.carats += 24 * gold
        return [self.grains]

    def fits(self, k):
        if k not in range(len(self.kinds)):
            return [-2]
        return [int(self.carats == self.kinds[k]["fine"] * self.grains)]

    def needed(self, grains, carats, fine):
        """By trying gold, from none on: 24 tries more than make it fine enough reach every rest there is."""
        gold = 0
        if carats < fine * grains:
            if fine == 24:
                return None
            gold = max(0, (fine * grains - carats) // (24 - fine) - 1)
        for gold in range(gold, gold + 50):
            if (carats + 24 * gold) % fine == 0:
                copper = (carats + 24 * gold) // fine - grains - gold
                if copper >= 0:
                    return gold, copper
        return None

    def need(self, k):
        if k not in range(len(self.kinds)):
            return [-2]
        what = self.needed(self.grains, self.carats, self.kinds[k]["fine"])
        return [-33] if what is None else [sum(what), what[0], what[1]]

    def plan(self, k, least):
        if k not in range(len(self.kinds)):
            return [-2]
        if least > 2000000:
            return [-22]
        there = [place for place in range(10) if self.lots[place] is not EMPTY]
        plans = []
        for choice in range(1 << len(there)):
            chosen = [place for at, place in enumerate(there) if choice >> at & 1]
            grains = self.grains + sum(self.lots[place][0] for place in chosen)
            carats = self.carats + sum(self.lots[place][1] for place in chosen)
            what = self.needed(grains, carats, self.kinds[k]["fine"])
            if what is not None and grains + sum(what) >= least:
                plans.append((sum(what), len(chosen), sum(1 << place for place in chosen)))
        return [min(plans)[0], min(plans)[2]] if plans else [-33]

    def strike(self, k, number, n, count, *weights):
        if k not in range(len(self.kinds)) or number not in range(len(self.dies)):
            return [-2]
        if n not in range(1, 9):
            return [-22]
        if self.dies[number][0] != k:
            return [-13]
        if self.fits(k) == [0]:
            return [-71]
        kind = self.kinds[k]
        struck = 0
        for weight in weights[:n]:
            lightest, heaviest = kind["grains"] - kind["remedy"], kind["grains"] + kind["remedy"]
            if (lightest <= weight <= heaviest and self.dies[number][1] > 0 and self.grains >= weight
                    and len(kind["stock"] + kind["box"]) < 60):
                self.grains -= weight
                self.carats -= weight * kind["fine"]
                self.dies[number][1] -= 1
                kind["ever"] += 1
                kind["box" if kind["ever"] % 10 == 0 else "stock"].append(weight)
                struck += 1
        return [struck]

    def enough(self, k):
        return [self.grains // self.kinds[k]["grains"]] if k in range(len(self.kinds)) else [-2]

    def trial(self, k):
        if k not in range(len(self.kinds)):
            return [-2]
        kind = self.kinds[k]
        if not kind["box"]:
            return [-6]
        coins, weight = len(kind["box"]), sum(kind["box"])
        passes = -coins * kind["remedy"] <= 2 * weight - 2 * coins * kind["grains"] <= coins * kind["remedy"]
        return [int(passes), coins, weight]

    def open_box(self, k):
        told = self.trial(k)
        if told[0] < 0:
            return told
        if told[0] == 0:
            return [-33]
        kind = self.kinds[k]
        kind["stock"], kind["box"] = kind["stock"] + kind["box"], []
        return [told[1]]

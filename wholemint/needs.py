"""What's needed to make metal as fine as a kind, and which lots to melt so that least of it is added."""

from wholemint.state import CARATS_OF_GOLD


class Need:
    """So much gold and so much copper, to be added."""

    def __init__(self, gold, copper):
        self.gold = gold
        self.copper = copper

    def together(self):
        return self.gold + self.copper


class Choice:
    """Lots as bits, how many they are, and the metal that they and the pot are together."""

    def __init__(self, bits, lots, metal):
        self.bits = bits
        self.lots = lots
        self.metal = metal

    def and_lot(self, place, metal):
        return Choice(self.bits + (1 << place), self.lots + 1, self.metal.together_with(metal))


class Plan:
    """A choice, and how much is added to it."""

    def __init__(self, choice, added):
        self.choice = choice
        self.added = added

    def is_better_than(self, other):
        if self.added != other.added:
            return self.added < other.added
        if self.choice.lots != other.choice.lots:
            return self.choice.lots < other.choice.lots
        return self.choice.bits < other.choice.bits


def gold_by_rest(fine):
    """For each rest of carats divided by fine: the least gold that makes the rest 0, or -1 if none does."""
    golds = [-1 for rest in range(fine)]
    # Rests come again after so many grains of gold; the least gold is written last, and so it stays.
    for gold in range(fine - 1, -1, -1):
        golds[-CARATS_OF_GOLD * gold % fine] = gold
    return golds


def find_need(metal, fine, golds):
    """The need of the metal, or None if nothing makes it as fine; golds is gold_by_rest(fine)."""
    # A grain of gold puts the carats so far above fine times the grains, one of copper puts them fine below.
    lift = CARATS_OF_GOLD - fine
    above = metal.carats - fine * metal.grains
    gold = 0
    if above < 0:
        if lift == 0:
            return None
        gold = (-above + lift - 1) // lift
        above = above + lift * gold
    more = golds[above % fine]
    if more < 0:
        return None
    return Need(gold + more, (above + lift * more) // fine)


def all_choices(pot, lots):
    choices = [Choice(0, 0, pot)]
    for place in range(len(lots)):
        lot = lots[place]
        if not lot.is_none():
            choices = choices + [choice.and_lot(place, lot) for choice in choices]
    return choices


def find_plan(pot, lots, fine, least):
    """The plan for so many grains at least, or None if there's no plan."""
    golds = gold_by_rest(fine)
    best = None
    for choice in all_choices(pot, lots):
        need = find_need(choice.metal, fine, golds)
        if need is not None and choice.metal.grains + need.together() >= least:
            found = Plan(choice, need.together())
            if best is None or found.is_better_than(best):
                best = found
    return best

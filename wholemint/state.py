"""What a mint has: metal, kinds of coins, dies, and what it owes to people."""

CARATS_OF_GOLD = 24
PLACES = 10
PEOPLE = 6


class Metal:
    """So many grains with so many carats. It is never changed, only replaced by another."""

    def __init__(self, grains, carats):
        self.grains = grains
        self.carats = carats

    def is_none(self):
        return self.grains == 0

    def is_as_fine_as(self, fine):
        return self.carats == fine * self.grains

    def together_with(self, other):
        return Metal(self.grains + other.grains, self.carats + other.carats)

    def less(self, other):
        return Metal(self.grains - other.grains, self.carats - other.carats)


class Kind:
    """A kind of coins, and the weights of those that are in its stock and in its box."""

    def __init__(self, grains, fine, remedy):
        self.grains = grains
        self.fine = fine
        self.remedy = remedy
        self.struck = 0
        self.stock = []
        self.box = []


class Die:
    """A die of the kind with that number, and how many coins it strikes yet."""

    def __init__(self, kind, left):
        self.kind = kind
        self.left = left


class Mint:
    """All that the calls read and change."""

    def __init__(self):
        self.begin_anew(0)

    def begin_anew(self, keeps):
        self.keeps = keeps
        self.kinds = []
        self.dies = []
        self.lots = [Metal(0, 0) for place in range(PLACES)]
        self.pot = Metal(0, 0)
        self.credit = [0 for person in range(PEOPLE)]
        self.kept = 0

    def has_kind(self, k):
        return k < len(self.kinds)

    def has_die(self, number):
        return number < len(self.dies)

    def has_person(self, p):
        return p < PEOPLE

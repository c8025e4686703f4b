"""What a mint has: metal, kinds of coins, dies, what it owes to people, and what it has counted."""

CARATS_OF_GOLD = 24
PLACES = 10
PEOPLE = 6
MOST_IN_POT = 2000000


class Metal:
    """So many grains with so many carats. It is never changed, only replaced by another."""

    def __init__(self, grains, carats):
        self.grains = grains
        self.carats = carats

    def is_none(self):
        return self.grains == 0

    def is_as_fine_as(self, fine):
        return self.carats == fine * self.grains

    def together_with(self, other):
        return Metal(self.grains + other.grains, self.carats + other.carats)

    def less(self, other):
        return Metal(self.grains - other.grains, self.carats - other.carats)


class Kind:
    """A kind of coins, and the weights of those that are in its stock and in its box."""

    def __init__(self, grains, fine, remedy):
        self.grains = grains
        self.fine = fine
        self.remedy = remedy
        self.struck = 0
        self.stock = []
        self.box = []

    def metal_of(self, grains):
        return Metal(grains, self.fine * grains)

    def another_alike(self):
        other = Kind(self.grains, self.fine, self.remedy)
        other.struck = self.struck
        other.stock = list(self.stock)
        other.box = list(self.box)
        return other


class Die:
    """A die of the kind with that number, and how many coins it strikes yet."""

    def __init__(self, kind, left):
        self.kind = kind
        self.left = left

    def another_alike(self):
        return Die(self.kind, self.left)


class Mint:
    """All that the calls read and change; what was brought, added, paid, kept and lessened is in carats."""

    def __init__(self, keeps):
        self.keeps = keeps
        self.kinds = []
        self.dies = []
        self.lots = [Metal(0, 0) for place in range(PLACES)]
        self.pot = Metal(0, 0)
        self.credit = [0 for person in range(PEOPLE)]
        self.kept = 0
        self.lessened = 0
        self.brought = 0
        self.added = 0
        self.paid = 0

    def another_alike(self):
        other = Mint(self.keeps)
        other.kinds = [kind.another_alike() for kind in self.kinds]
        other.dies = [die.another_alike() for die in self.dies]
        other.lots = list(self.lots)
        other.pot = self.pot
        other.credit = list(self.credit)
        other.kept = self.kept
        other.lessened = self.lessened
        other.brought = self.brought
        other.added = self.added
        other.paid = self.paid
        return other

    def count_lots(self):
        return len([lot for lot in self.lots if not lot.is_none()])

    def has_kind(self, k):
        return k < len(self.kinds)

    def has_die(self, number):
        return number < len(self.dies)

    def has_person(self, p):
        return p < PEOPLE

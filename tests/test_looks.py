"""Promise 10: mi_pot, mi_lots and mi_worn."""

from tests.helper import MintCase
from tests.helper import begin, kind, die, bring, old, melt, add, strike, break_box, pot, lots, worn, back, again


def places(*metals):
    """The answer of mi_lots with these metals, a pair each, from place 0 on; the other places are empty."""
    told = [number for metal in metals for number in metal]
    return [len([metal for metal in metals if metal != (0, 0)])] + told + [0] * (20 - len(told))


class Pot(MintCase):
    def test_none_at_first(self):
        self.answered([begin(0)], (pot(), [0, 0]))

    def test_grains_and_carats(self):
        before = [begin(0), kind(100, 20, 5), die(0, 9), bring(0, 1000, 19000), bring(0, 7, 0)]
        self.answered(before, (pot(), [0, 0]), (melt(1), [1000]), (pot(), [1000, 19000]), (melt(2), [1007]),
                      (pot(), [1007, 19000]), (add(300, 7), [1314]), (pot(), [1314, 26200]), (add(0, 1), [1315]),
                      (pot(), [1315, 26200]))

    def test_struck_and_broken(self):
        before = [begin(0), kind(100, 20, 5), die(0, 90), add(1000, 200)]
        self.answered(before, (pot(), [1200, 24000]), (strike(0, 0, [105, 95, 104]), [3]), (pot(), [896, 17920]),
                      (strike(0, 0, [100] * 7), [7]), (pot(), [196, 3920]), (break_box(0), [1]), (pot(), [296, 5920]))

    def test_full(self):
        self.answered([begin(0)] + [add(100000, 0)] * 20, (pot(), [2000000, 48000000]))

    def test_copper_alone(self):
        self.answered([begin(0), add(0, 5)], (pot(), [5, 0]))


class Lots(MintCase):
    def test_all_empty(self):
        self.answered([begin(0)], (lots(), places()))

    def test_each_place_from_0(self):
        before = [begin(400), kind(100, 20, 5), bring(0, 1000, 19000), bring(1, 7, 0), old(2, 0, 30)]
        self.answered(before, (lots(), places((1000, 19000), (7, 0), (30, 600))))

    def test_all_full(self):
        before = [begin(0)] + [bring(0, 10 + at, 3 * at) for at in range(10)]
        self.answered(before, (lots(), places(*[(10 + at, 3 * at) for at in range(10)])), (bring(0, 1, 1), [-28]),
                      (lots(), places(*[(10 + at, 3 * at) for at in range(10)])))

    def test_melted_ones_are_empty_till_they_are_filled(self):
        before = [begin(0)] + [bring(0, 10 + at, 3 * at) for at in range(4)]
        self.answered(before, (melt(5), [22]), (lots(), places((0, 0), (11, 3), (0, 0), (13, 9))),
                      (bring(0, 99, 98), [0, 98]), (lots(), places((99, 98), (11, 3), (0, 0), (13, 9))),
                      (melt(11), [145]), (lots(), places()))

    def test_the_last_place_alone(self):
        before = [begin(0)] + [bring(0, 10 + at, 3 * at) for at in range(10)] + [melt(511)]
        self.answered(before, (lots(), [1] + [0] * 18 + [19, 27]))

    def test_the_greatest(self):
        before = [begin(0)] + [bring(0, 100000, 2400000)] * 10
        self.answered(before, (lots(), [10] + [100000, 2400000] * 10))


class Worn(MintCase):
    def test_no_die(self):
        self.answered([begin(0)], (worn(), [0, 0]))
        self.answered([begin(0), kind(1, 24, 0)], (worn(), [0, 0]))

    def test_none_some_and_all(self):
        before = [begin(0), kind(1, 24, 0), add(1000, 0), die(0, 1), die(0, 3), die(0, 2), die(0, 9)]
        self.answered(before, (worn(), [0, 0]), (strike(0, 2, [1, 1]), [2]), (worn(), [1, 4]),
                      (strike(0, 1, [1, 1]), [2]), (worn(), [1, 4]), (strike(0, 0, [1, 1]), [1]), (worn(), [2, 5]),
                      (strike(0, 1, [1, 1]), [1]), (worn(), [3, 7]), (strike(0, 3, [1] * 8), [8]), (worn(), [3, 7]),
                      (strike(0, 3, [1]), [1]), (worn(), [4, 15]))

    def test_six(self):
        before = [begin(0), kind(1, 24, 0), add(1000, 0)] + [die(0, 1)] * 6
        strikes = [strike(0, number, [1]) for number in range(6)]
        self.answered(before + strikes, (worn(), [6, 63]))
        self.answered(before + strikes[5:], (worn(), [1, 32]))
        self.answered(before + strikes[:5], (worn(), [5, 31]))

    def test_blanks_that_are_not_struck_wear_none(self):
        before = [begin(0), kind(10, 24, 2), add(25, 0), die(0, 2)]
        self.answered(before, (strike(0, 0, [7, 13, 26]), [0]), (worn(), [0, 0]), (strike(0, 0, [12, 12]), [2]),
                      (worn(), [1, 1]))

    def test_a_new_die_is_not_worn(self):
        before = [begin(0), kind(1, 24, 0), add(9, 0), die(0, 1), strike(0, 0, [1])]
        self.answered(before, (worn(), [1, 1]), (die(0, 1), [1]), (worn(), [1, 1]), (strike(0, 1, [1]), [1]),
                      (worn(), [2, 3]))

    def test_broken_coins_do_not_mend_it(self):
        before = [begin(0), kind(1, 24, 0), add(99, 0), die(0, 10), strike(0, 0, [1] * 8), strike(0, 0, [1] * 8)]
        self.answered(before, (worn(), [1, 1]), (break_box(0), [1]), (worn(), [1, 1]), (strike(0, 0, [1]), [0]))

    def test_taken_back(self):
        before = [begin(0), kind(1, 24, 0), add(9, 0), die(0, 1), strike(0, 0, [1])]
        self.answered(before, (worn(), [1, 1]), (back(), [3]), (worn(), [0, 0]), (again(), [0]), (worn(), [1, 1]))

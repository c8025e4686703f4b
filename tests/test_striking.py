"""Promise 6: mi_strike and mi_enough."""

from tests.helper import MintCase, TOP, run
from tests.helper import begin, kind, die, bring, add, melt, fits, need, strike, enough, trial, open_box


def gold_mint(grains=100, remedy=5, gold=100000):
    """Kind 0 of pure gold, a die for 1,000 coins, kind 1 with which mi_enough tells the pot's grains."""
    return [begin(0), kind(grains, 24, remedy), die(0, 1000), kind(1, 24, 0), add(gold, 0)]


class Strike(MintCase):
    def test_taken_from_the_pot(self):
        before = [begin(0), kind(100, 20, 5), kind(1, 20, 0), die(0, 9), add(500, 100)]
        self.answered(before, (enough(1), [600]), (strike(0, 0, [100, 95, 105]), [3]), (enough(1), [300]),
                      (fits(0), [1]), (add(300, 0), [600]), (need(0), [60, 0, 60]))

    def test_those_that_cannot_be_are_passed_over(self):
        self.answered(gold_mint(), (strike(0, 0, [94, 100, 106, 95, 0, 105, TOP, 100]), [4]), (enough(1), [99600]))

    def test_the_remedy(self):
        for grains, remedy in ((100, 5), (100, 0), (101, 100), (10000, 100), (1, 0), (2, 1)):
            for weight, told in ((grains - remedy, 1), (grains + remedy, 1), (grains, 1),
                                 (grains - remedy - 1, 0), (grains + remedy + 1, 0), (TOP, 0)):
                with self.subTest(grains=grains, remedy=remedy, weight=weight):
                    self.answered(gold_mint(grains, remedy), (strike(0, 0, [weight]), [told]),
                                  (enough(1), [100000 - told * weight]))

    def test_only_the_first_n(self):
        row = [100, 101, 99, 100, 100, 100, 100, 100]
        for n in range(1, 9):
            self.answered(gold_mint(), (strike(0, 0, row, n), [n]), (enough(1), [100000 - sum(row[:n])]))

    def test_n_is_1_to_8(self):
        for n in (0, 9, TOP):
            self.answered(gold_mint(), (strike(0, 0, [100] * 8, n), [-22]), (enough(1), [100000]))

    def test_the_pot_has_so_much(self):
        self.answered(gold_mint(gold=303), (strike(0, 0, [100, 100, 104, 103, 100]), [3]), (enough(1), [0]),
                      (fits(0), [1]), (strike(0, 0, [100]), [0]))
        self.answered(gold_mint(gold=99), (strike(0, 0, [100, 99]), [1]))
        self.answered(gold_mint(gold=98), (strike(0, 0, [100, 99]), [0]), (enough(1), [98]))

    def test_an_empty_pot_strikes_none(self):
        self.answered([begin(0), kind(100, 7, 5), die(0, 3)], (strike(0, 0, [100, 95]), [0]))

    def test_a_die_that_strikes_none_any_more(self):
        before = [begin(0), kind(100, 24, 5), die(0, 3), die(0, 9), add(5000, 0), kind(1, 24, 0)]
        self.answered(before, (strike(0, 0, [1, 100, 100]), [2]), (strike(0, 0, [100, 100]), [1]),
                      (strike(0, 0, [100, 100]), [0]), (enough(1), [4700]), (strike(0, 1, [100] * 8), [8]),
                      (strike(0, 1, [100] * 8), [1]), (strike(0, 1, [100] * 8), [0]), (enough(1), [3800]))

    def test_a_blank_not_struck_wears_no_die(self):
        before = [begin(0), kind(100, 24, 5), die(0, 2), add(5000, 0)]
        self.answered(before, (strike(0, 0, [1] * 8), [0]), (strike(0, 0, [94] * 8), [0]),
                      (strike(0, 0, [100] * 8), [2]))

    def test_sixty_coins(self):
        eights = [(strike(0, 0, [100] * 8), [8])] * 7
        self.answered(gold_mint(), *eights, (strike(0, 0, [100] * 8), [4]), (strike(0, 0, [100] * 8), [0]),
                      (trial(0), [1, 6, 600]), (enough(1), [94000]))

    def test_sixty_coins_when_the_box_is_in_stock(self):
        eights = [strike(0, 0, [100] * 8)] * 7 + [strike(0, 0, [100] * 3)]
        self.answered(gold_mint() + eights, (open_box(0), [5]), (strike(0, 0, [100] * 8), [1]), (trial(0), [1, 1, 100]),
                      (strike(0, 0, [100] * 8), [0]), (open_box(0), [1]), (strike(0, 0, [100] * 8), [0]))

    def test_sixty_coins_of_each_kind(self):
        before = [begin(0), kind(10, 24, 1), kind(10, 24, 1), die(0, 100), die(1, 100), die(0, 100), add(5000, 0)]
        full = before + [strike(0, 0, [10] * 8)] * 8
        self.answered(full, (strike(0, 0, [10]), [0]), (strike(0, 2, [10]), [0]), (strike(1, 1, [10]), [1]))

    def test_each_tenth_into_the_box(self):
        before = gold_mint() + [strike(0, 0, [100] * 4)] * 2
        self.answered(before, (trial(0), [-6]), (strike(0, 0, [103]), [1]), (trial(0), [-6]),
                      (strike(0, 0, [102]), [1]), (trial(0), [1, 1, 102]), (strike(0, 0, [104] * 8), [8]),
                      (strike(0, 0, [105]), [1]), (trial(0), [1, 1, 102]),
                      (strike(0, 0, [101, 95, 95, 95, 95, 95, 95, 95]), [8]), (trial(0), [1, 2, 203]),
                      (strike(0, 0, [95, 95, 104]), [3]), (trial(0), [1, 3, 307]))

    def test_tenths_of_those_struck_not_of_blanks(self):
        before = gold_mint() + [strike(0, 0, [1, 2, 3, 100, 100, 100, 100, 100])]
        self.answered(before, (strike(0, 0, [100, 1, 100, 1, 100, 1, 100, 1]), [4]), (trial(0), [-6]),
                      (strike(0, 0, [1, 2, 97, 98]), [2]), (trial(0), [0, 1, 97]))

    def test_tenths_of_a_kind_whatever_die(self):
        before = [begin(0), kind(10, 24, 1), kind(10, 24, 1), die(0, 6), die(0, 100), die(1, 100), add(5000, 0)]
        self.answered(before, (strike(0, 0, [10] * 8), [6]), (strike(1, 2, [10] * 8), [8]), (trial(0), [-6]),
                      (strike(0, 1, [10] * 4), [4]), (trial(0), [1, 1, 10]), (trial(1), [-6]),
                      (strike(1, 2, [10] * 8), [8]), (trial(1), [1, 1, 10]), (trial(0), [1, 1, 10]))

    def test_tenths_of_those_ever_struck(self):
        before = gold_mint() + [strike(0, 0, [100] * 8), strike(0, 0, [100] * 4)]
        self.answered(before, (open_box(0), [1]), (strike(0, 0, [100] * 7), [7]), (trial(0), [-6]),
                      (strike(0, 0, [101]), [1]), (trial(0), [1, 1, 101]))

    def test_the_pot_must_be_as_fine(self):
        before = [begin(0), kind(100, 22, 5), die(0, 9)]
        self.answered(before + [add(1100, 100)], (strike(0, 0, [100]), [1]))
        self.answered(before + [add(1101, 100)], (strike(0, 0, [100]), [-71]))
        self.answered(before + [add(1100, 101)], (strike(0, 0, [100]), [-71]))
        self.answered(before + [bring(0, 1000, 21999), melt(1)], (strike(0, 0, [100]), [-71]))
        self.answered(before + [bring(0, 1000, 22000), melt(1)], (strike(0, 0, [100]), [1]))

    def test_which_refusal(self):
        before = [begin(0), kind(100, 22, 5), kind(100, 20, 5), die(1, 9), add(1, 0)]
        self.answered(before, (strike(2, 0, [100], 0), [-2]), (strike(0, 1, [100], 0), [-2]),
                      (strike(TOP, TOP, [TOP] * 8, TOP), [-2]), (strike(0, 0, [100], 0), [-22]),
                      (strike(0, 0, [100], 9), [-22]), (strike(0, 0, [100]), [-13]), (strike(1, 0, [100]), [-71]),
                      (strike(1, 0, [1]), [-71]))

    def test_refused_leaves_all_as_it_was(self):
        fine = [begin(0), kind(100, 20, 5), kind(100, 22, 5), die(0, 9), die(1, 9), add(1000, 200)]
        for refused, number in ((strike(2, 0, [100]), -2), (strike(0, 2, [100]), -2), (strike(0, 0, [100], 0), -22),
                                (strike(0, 0, [100] * 8, 9), -22), (strike(0, 1, [100]), -13),
                                (strike(1, 1, [100]), -71)):
            self.left_as_it_was(fine, refused, number)

    def test_none_struck_is_no_refusal(self):
        self.assertEqual(run(gold_mint() + [strike(0, 0, [1])])[-1], [0])

    def test_heaviest_coins(self):
        before = [begin(0), kind(10000, 24, 100), die(0, 1000), kind(1, 24, 0)] + [add(100000, 0)] * 20
        self.answered(before, (strike(0, 0, [10100] * 8), [8]), (strike(0, 0, [9900] * 8), [8]),
                      (enough(1), [2000000 - 160000]), (trial(0), [0, 1, 9900]))


class Enough(MintCase):
    def test_rounded_down(self):
        for grains, told in ((1, 600), (7, 85), (599, 1), (600, 1), (601, 0), (300, 2), (301, 1), (10000, 0)):
            self.assertEqual(self.last(kind(grains, 3, 0), add(500, 100), enough(0)), [told])

    def test_an_empty_pot(self):
        self.assertEqual(self.last(kind(1, 3, 0), enough(0)), [0])

    def test_a_full_pot(self):
        self.assertEqual(self.last(kind(1, 3, 0), *[add(100000, 0)] * 20, enough(0)), [2000000])

    def test_no_such_kind(self):
        self.answered([begin(0), kind(1, 3, 0), add(1, 1)], (enough(1), [-2]), (enough(TOP), [-2]))
        self.left_as_it_was(gold_mint(), enough(2), -2)

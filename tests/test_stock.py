"""Promise 9: mi_stock and mi_off."""

from tests.helper import MintCase, TOP
from tests.helper import begin, kind, die, bring, add, strike, open_box, break_box, pay, stock, off, back, again


def gold_mint(grains=100, remedy=6):
    return [begin(0), kind(grains, 24, remedy), die(0, 1000), bring(0, 100000, 2400000), add(100000, 0)]


class Stock(MintCase):
    def test_no_coin(self):
        self.answered(gold_mint(), (stock(0), [0, 0, 0, 0]))

    def test_coins_in_stock_and_in_the_box(self):
        self.answered(gold_mint(), (strike(0, 0, [100, 101, 94]), [3]), (stock(0), [3, 295, 0, 3]),
                      (strike(0, 0, [100] * 6), [6]), (stock(0), [9, 895, 0, 9]), (strike(0, 0, [106]), [1]),
                      (stock(0), [9, 895, 1, 10]), (strike(0, 0, [103]), [1]), (stock(0), [10, 998, 1, 11]))

    def test_those_that_were_not_struck_do_not_count(self):
        self.answered(gold_mint(), (strike(0, 0, [93, 107, 0, 100]), [1]), (stock(0), [1, 100, 0, 1]))

    def test_opened_broken_and_paid(self):
        ten = [strike(0, 0, [100] * 8), strike(0, 0, [100, 102])]
        self.answered(gold_mint() + ten, (open_box(0), [1]), (stock(0), [10, 1002, 0, 10]),
                      (pay(0, 0, 4), [2390400, 400]), (stock(0), [6, 602, 0, 10]))
        self.answered(gold_mint() + ten, (break_box(0), [1]), (stock(0), [9, 900, 0, 10]),
                      (pay(0, 0, 9), [2378400, 900]), (stock(0), [0, 0, 0, 10]))

    def test_more_were_struck_than_there_can_be(self):
        before = gold_mint(grains=2, remedy=1)
        for turn in range(9):
            before += [strike(0, 0, [3] * 8), strike(0, 0, [3] * 2), break_box(0), pay(0, 0, 9)]
        self.answered(before, (stock(0), [0, 0, 0, 90]))

    def test_sixty(self):
        before = gold_mint() + [strike(0, 0, [106] * 8)] * 8
        self.answered(before, (stock(0), [54, 54 * 106, 6, 60]))

    def test_each_kind_has_its_own(self):
        before = gold_mint() + [kind(7, 24, 0), die(1, 1), strike(1, 1, [7]), strike(0, 0, [99, 99])]
        self.answered(before, (stock(0), [2, 198, 0, 2]), (stock(1), [1, 7, 0, 1]))

    def test_refusals(self):
        self.answered([begin(0)], (stock(0), [-2]))
        for k in (1, 3, 4, TOP):
            self.answered(gold_mint(), (stock(k), [-2]))
        self.left_as_it_was(gold_mint() + [strike(0, 0, [99]), back()], stock(1), -2)


class Off(MintCase):
    def test_no_coin(self):
        self.answered(gold_mint(), (off(0), [0, 0]))

    def test_more_less_and_just_what_they_are_to_have(self):
        for weights, told in (([106], [6, 1]), ([94], [6, 0]), ([100], [0, 0]), ([101], [1, 1]), ([99], [1, 0]),
                              ([106, 106, 105], [17, 1]), ([94, 94, 95], [17, 0]), ([100] * 8, [0, 0])):
            self.answered(gold_mint() + [strike(0, 0, weights)], (off(0), told))

    def test_weights_make_up_for_each_other(self):
        for weights, told in (([106, 94], [0, 0]), ([106, 95], [1, 1]), ([105, 94], [1, 0]),
                              ([101, 101, 101, 97], [0, 0]), ([101, 101, 101, 98], [1, 1]), ([104, 95, 100], [1, 0])):
            self.answered(gold_mint() + [strike(0, 0, weights)], (off(0), told))

    def test_in_stock_and_in_the_box_together(self):
        nine = gold_mint() + [strike(0, 0, [100] * 8), strike(0, 0, [102])]
        self.answered(nine, (off(0), [2, 1]), (strike(0, 0, [94]), [1]), (off(0), [4, 0]))
        self.answered(nine, (strike(0, 0, [98]), [1]), (off(0), [0, 0]), (open_box(0), [1]), (off(0), [0, 0]))
        self.answered(nine, (strike(0, 0, [106]), [1]), (off(0), [8, 1]), (break_box(0), [1]), (off(0), [2, 1]))

    def test_only_a_coin_in_the_box(self):
        before = gold_mint() + [strike(0, 0, [106] * 8), strike(0, 0, [106, 94]), pay(0, 0, 9)]
        self.answered(before, (stock(0), [0, 0, 1, 10]), (off(0), [6, 0]))

    def test_what_was_paid_does_not_count(self):
        before = gold_mint() + [strike(0, 0, [106, 106, 95])]
        self.answered(before, (off(0), [7, 1]), (pay(0, 0, 1), [2397600, 106]), (off(0), [1, 1]),
                      (pay(0, 0, 1), [2395200, 106]), (off(0), [5, 0]), (back(), [6]), (off(0), [1, 1]), (again(), [0]),
                      (pay(0, 0, 1), [2392800, 95]), (off(0), [0, 0]))

    def test_all_that_there_can_be(self):
        self.answered(gold_mint(1000, 100) + [strike(0, 0, [1100] * 8)] * 8, (off(0), [6000, 1]))
        self.answered(gold_mint(1000, 100) + [strike(0, 0, [900] * 8)] * 8, (off(0), [6000, 0]))

    def test_each_kind_by_itself(self):
        before = gold_mint() + [kind(7, 24, 2), die(1, 9), strike(1, 1, [5]), strike(0, 0, [101])]
        self.answered(before, (off(0), [1, 1]), (off(1), [2, 0]))

    def test_refusals(self):
        self.answered([begin(0)], (off(0), [-2]))
        for k in (1, 3, 4, TOP):
            self.answered(gold_mint(), (off(k), [-2]))
        self.left_as_it_was(gold_mint() + [strike(0, 0, [99]), back()], off(1), -2)

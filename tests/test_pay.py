"""Promise 8: mi_pay and mi_credit."""

from tests.helper import MintCase, TOP
from tests.helper import begin, kind, die, bring, old, melt, add, strike, trial, open_box, break_box
from tests.helper import pay, credit, stock, pot, ledger, back

WEIGHTS = [95, 105, 101, 99, 100, 103, 102, 98]


def with_credit(carats, keeps=0):
    """Person 0 with that credit if nothing is kept; kind 0, a coin of which is 2,000 carats; 8 coins in its stock."""
    return [begin(keeps), kind(100, 20, 5), die(0, 1000), bring(0, 5000, carats), add(20000, 4000),
            strike(0, 0, WEIGHTS)]


class Pay(MintCase):
    def test_the_first_of_the_stock(self):
        self.answered(with_credit(24000), (pay(0, 0, 1), [22000, 95]), (pay(0, 0, 2), [18000, 206]),
                      (pay(0, 0, 1), [16000, 99]), (pay(0, 0, 4), [8000, 403]), (pay(0, 0, 1), [-12]))

    def test_they_are_in_stock_no_more(self):
        self.answered(with_credit(24000), (stock(0), [8, 803, 0, 8]), (pay(0, 0, 3), [18000, 301]),
                      (stock(0), [5, 502, 0, 8]), (pay(0, 0, 5), [8000, 502]), (stock(0), [0, 0, 0, 8]))

    def test_no_coin(self):
        self.answered(with_credit(24000), (pay(0, 0, 0), [-22]), (credit(0), [24000]))

    def test_all_in_stock_and_one_more(self):
        self.answered(with_credit(24000), (pay(0, 0, 8), [8000, 803]))
        for n in (9, 10, 60, 61, TOP):
            self.answered(with_credit(120000), (pay(0, 0, n), [-12]), (stock(0), [8, 803, 0, 8]))

    def test_a_credit_that_just_suffices_and_one_that_does_not(self):
        for n, weight in ((1, 95), (2, 200), (8, 803)):
            self.answered(with_credit(2000 * n), (pay(0, 0, n), [0, weight]), (credit(0), [0]))
            self.answered(with_credit(2000 * n + 1), (pay(0, 0, n), [1, weight]), (credit(0), [1]))
            self.answered(with_credit(2000 * n - 1), (pay(0, 0, n), [-20]), (credit(0), [2000 * n - 1]))

    def test_what_the_mint_keeps_is_no_credit(self):
        self.answered(with_credit(6000, keeps=1), (credit(0), [5994]), (pay(0, 0, 3), [-20]),
                      (pay(0, 0, 2), [1994, 200]))
        self.answered(with_credit(12000, keeps=500), (pay(0, 0, 3), [0, 301]))

    def test_the_credit_pays_what_coins_are_to_have(self):
        before = [begin(0), kind(100, 24, 50), die(0, 9), bring(1, 200, 4800), add(1000, 0)]
        self.answered(before + [strike(0, 0, [150, 150, 50])], (pay(1, 0, 2), [0, 300]), (pay(1, 0, 1), [-20]))
        self.answered(before + [strike(0, 0, [50, 50, 50])], (pay(1, 0, 3), [-20]), (pay(1, 0, 2), [0, 100]))

    def test_nothing_comes_from_or_to_the_pot(self):
        self.answered(with_credit(24000), (pot(), [23197, 463940]), (pay(0, 0, 3), [18000, 301]),
                      (pot(), [23197, 463940]))

    def test_coins_of_the_box_are_not_paid(self):
        before = with_credit(120000) + [strike(0, 0, [100, 101, 100])]
        self.answered(before, (pay(0, 0, 11), [-12]), (pay(0, 0, 10), [100000, 1003]), (trial(0), [1, 1, 101]),
                      (pay(0, 0, 1), [-12]), (open_box(0), [1]), (pay(0, 0, 1), [98000, 101]))

    def test_coins_of_a_broken_box_are_not_paid(self):
        before = with_credit(120000) + [strike(0, 0, [100, 101]), break_box(0)]
        self.answered(before, (pay(0, 0, 10), [-12]), (pay(0, 0, 9), [102000, 903]))

    def test_there_is_room_for_as_many_coins(self):
        before = with_credit(120000) + [strike(0, 0, [100] * 8)] * 7
        self.answered(before, (strike(0, 0, [100]), [0]), (pay(0, 0, 3), [114000, 301]),
                      (strike(0, 0, [100] * 8), [3]))

    def test_each_tenth_is_counted_on(self):
        before = with_credit(24000) + [pay(0, 0, 8), strike(0, 0, [100])]
        self.answered(before, (trial(0), [-6]), (strike(0, 0, [102]), [1]), (trial(0), [1, 1, 102]))

    def test_each_person_has_an_own_credit(self):
        before = with_credit(4000) + [bring(5, 100, 2000)]
        self.answered(before, (pay(1, 0, 1), [-20]), (pay(5, 0, 2), [-20]), (pay(5, 0, 1), [0, 95]),
                      (credit(0), [4000]), (pay(0, 0, 2), [0, 206]), (credit(5), [0]))

    def test_each_kind_has_an_own_stock(self):
        before = with_credit(50000) + [kind(10, 20, 0), die(1, 9), strike(1, 1, [10] * 2)]
        self.answered(before, (pay(0, 1, 3), [-12]), (pay(0, 1, 2), [49600, 20]), (stock(0), [8, 803, 0, 8]),
                      (stock(1), [0, 0, 0, 2]))

    def test_what_was_not_brought_in_is_no_credit(self):
        before = [begin(0), kind(100, 24, 0), die(0, 9), add(1000, 0), strike(0, 0, [100])]
        self.answered(before, (pay(0, 0, 1), [-20]))

    def test_which_refusal(self):
        before = with_credit(1999)
        self.answered(before, (pay(6, 0, 0), [-2]), (pay(0, 1, 0), [-2]), (pay(6, 1, 0), [-2]),
                      (pay(TOP, 0, TOP), [-2]),
                      (pay(0, TOP, 9), [-2]), (pay(6, 0, 1), [-2]), (pay(0, 4, 1), [-2]), (pay(0, 0, 0), [-22]),
                      (pay(1, 0, 9), [-12]), (pay(0, 0, 9), [-12]), (pay(0, 0, TOP), [-12]), (pay(0, 0, 8), [-20]),
                      (pay(0, 0, 1), [-20]), (pay(1, 0, 1), [-20]))
        self.answered([begin(0), kind(100, 20, 5)], (pay(0, 0, 0), [-22]), (pay(0, 0, 1), [-12]))
        self.answered([begin(0)], (pay(0, 0, 0), [-2]), (pay(0, 0, 1), [-2]))

    def test_refused_leaves_all_as_it_was(self):
        before = with_credit(1999) + [add(1, 0), bring(3, 9, 9), back(), back()]
        for call, number in ((pay(6, 0, 1), -2), (pay(0, 1, 1), -2), (pay(0, 0, 0), -22), (pay(0, 0, 9), -12),
                             (pay(0, 0, 1), -20)):
            self.left_as_it_was(before, call, number)


class Credit(MintCase):
    def test_none_at_first(self):
        self.answered([begin(30)], *[(credit(p), [0]) for p in range(6)])

    def test_it_grows_with_each_lot(self):
        before = [begin(100), kind(100, 20, 5), bring(2, 10, 101), old(2, 0, 3), bring(4, 5, 1), bring(4, 5, 0)]
        self.answered(before, (credit(2), [90 + 54]), (credit(4), [0]), (credit(0), [0]), (credit(3), [0]))

    def test_melting_and_striking_leave_it(self):
        before = [begin(0), kind(100, 24, 5), die(0, 9), bring(2, 1000, 24000), melt(1), add(3, 0), strike(0, 0, [100])]
        self.answered(before, (credit(2), [24000]), (ledger(), [1003, 24072, 24000, 72, 0]))

    def test_the_greatest(self):
        before = [begin(0)] + [bring(0, 100000, 2400000)] * 10 + [melt(1023)] + [bring(0, 100000, 2400000)] * 10
        before += [melt(1023)] + [bring(0, 100000, 2400000)] * 10
        self.answered(before, (credit(0), [72000000]))

    def test_telling_changes_nothing(self):
        self.answered(with_credit(4000), (credit(0), [4000]), (credit(0), [4000]))

    def test_refusals(self):
        for p in (6, 7, TOP):
            self.answered(with_credit(4000), (credit(p), [-2]))
        self.left_as_it_was(with_credit(4000) + [back()], credit(6), -2)

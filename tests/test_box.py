"""Promise 7: mi_trial, mi_open and mi_break."""

from tests.helper import MintCase, TOP, run
from tests.helper import begin, kind, die, add, strike, fits, need, enough, trial, open_box, break_box, stock, pot, back


def boxed(grains, remedy, weights):
    """Calls after which the box of kind 0 has coins of these weights, each behind nine that are just right."""
    calls = [begin(0), kind(grains, 24, remedy), die(0, 1000), kind(1, 24, 0)] + [add(100000, 0)] * 20
    for weight in weights:
        calls += [strike(0, 0, [grains] * 8), strike(0, 0, [grains, weight])]
    return calls


class Trial(MintCase):
    def test_how_many_and_their_weights(self):
        self.answered(boxed(100, 6, [101]), (trial(0), [1, 1, 101]))
        self.answered(boxed(100, 6, [101, 97, 100]), (trial(0), [1, 3, 298]))
        self.answered(boxed(100, 6, [100] * 6), (trial(0), [1, 6, 600]))

    def test_one_coin_by_half_the_remedy(self):
        for weight, told in ((94, 0), (96, 0), (97, 1), (100, 1), (103, 1), (104, 0), (106, 0)):
            self.answered(boxed(100, 6, [weight]), (trial(0), [told, 1, weight]))

    def test_half_of_an_odd_remedy_is_not_rounded(self):
        for weight, told in ((97, 0), (98, 1), (102, 1), (103, 0)):
            self.answered(boxed(100, 5, [weight]), (trial(0), [told, 1, weight]))
        for weights, told in (((103, 102), 1), ((103, 103), 0), ((97, 98), 1), ((97, 97), 0)):
            self.answered(boxed(100, 5, weights), (trial(0), [told, 2, sum(weights)]))
        for weights, told in (((103, 102, 102), 1), ((103, 103, 102), 0), ((97, 98, 98), 1), ((97, 97, 98), 0)):
            self.answered(boxed(100, 5, weights), (trial(0), [told, 3, sum(weights)]))

    def test_with_no_remedy(self):
        self.answered(boxed(100, 0, [100, 100]), (trial(0), [1, 2, 200]))

    def test_with_a_remedy_of_1(self):
        for weights, told in (((101,), 0), ((101, 100), 1), ((101, 101), 0), ((99, 100), 1), ((99, 99, 100), 0),
                              ((99, 100, 100), 1)):
            self.answered(boxed(100, 1, weights), (trial(0), [told, len(weights), sum(weights)]))

    def test_weights_make_up_for_each_other(self):
        self.answered(boxed(100, 6, [106, 94]), (trial(0), [1, 2, 200]))
        self.answered(boxed(10000, 100, [10100, 10000]), (trial(0), [1, 2, 20100]))
        self.answered(boxed(10000, 100, [10100, 10001]), (trial(0), [0, 2, 20101]))

    def test_only_the_box_counts(self):
        before = [begin(0), kind(100, 24, 6), die(0, 1000), add(100000, 0)]
        before += [strike(0, 0, [106] * 8), strike(0, 0, [106, 100])]
        self.answered(before, (trial(0), [1, 1, 100]))

    def test_refusals(self):
        self.assertEqual(self.last(trial(0)), [-2])
        self.answered([begin(0), kind(100, 24, 6)], (trial(0), [-6]), (trial(1), [-2]), (trial(TOP), [-2]))
        self.left_as_it_was(boxed(100, 6, [101]), trial(1), -6)
        self.left_as_it_was(boxed(100, 6, [101]), trial(2), -2)

    def test_looking_changes_nothing(self):
        before = boxed(100, 6, [101])
        self.answered(before, (trial(0), [1, 1, 101]), (trial(0), [1, 1, 101]), (open_box(0), [1]))


class Open(MintCase):
    def test_how_many_they_were(self):
        self.answered(boxed(100, 6, [101]), (open_box(0), [1]), (trial(0), [-6]), (open_box(0), [-6]))
        self.answered(boxed(100, 6, [101, 97, 100]), (open_box(0), [3]), (open_box(0), [-6]))

    def test_nothing_comes_from_or_to_the_pot(self):
        before = boxed(100, 6, [101])
        self.answered(before, (enough(1), [2000000 - 1001]), (open_box(0), [1]), (enough(1), [2000000 - 1001]))

    def test_just_passes_and_just_does_not(self):
        self.answered(boxed(100, 6, [103]), (open_box(0), [1]))
        self.answered(boxed(100, 6, [104]), (open_box(0), [-33]), (trial(0), [0, 1, 104]), (open_box(0), [-33]))
        self.answered(boxed(100, 5, [103, 102]), (open_box(0), [2]))
        self.answered(boxed(100, 5, [103, 103]), (open_box(0), [-33]))
        self.answered(boxed(100, 5, [97]), (open_box(0), [-33]))

    def test_a_box_that_passes_later(self):
        before = boxed(100, 6, [106])
        more = [strike(0, 0, [100] * 8), strike(0, 0, [100])]
        self.answered(before + more, (open_box(0), [-33]), (strike(0, 0, [100]), [1]), (trial(0), [1, 2, 206]),
                      (open_box(0), [2]))

    def test_each_kind_has_its_own_box(self):
        before = [begin(0), kind(10, 24, 1), kind(20, 24, 1), die(0, 100), die(1, 100), add(5000, 0)]
        before += [strike(0, 0, [10] * 8), strike(0, 0, [10] * 2), strike(1, 1, [20] * 8), strike(1, 1, [20] * 2)]
        self.answered(before, (open_box(1), [1]), (trial(1), [-6]), (trial(0), [1, 1, 10]), (open_box(0), [1]))

    def test_which_refusal(self):
        self.answered([begin(0), kind(100, 24, 6)], (open_box(0), [-6]), (open_box(1), [-2]), (open_box(TOP), [-2]))

    def test_refused_leaves_all_as_it_was(self):
        before = boxed(100, 6, [106])
        self.left_as_it_was(before, open_box(0), -33)
        self.left_as_it_was(before, open_box(1), -6)
        self.left_as_it_was(before, open_box(2), -2)

    def test_the_coins_stay_the_mints(self):
        before = boxed(100, 6, [100] * 5)
        full = run(before + [open_box(0), strike(0, 0, [100] * 8), strike(0, 0, [100] * 8)])
        self.assertEqual(full[-3:], [[5], [8], [2]])


class Break(MintCase):
    def test_how_many_they_were(self):
        self.answered(boxed(100, 6, [101]), (break_box(0), [1]), (trial(0), [-6]), (break_box(0), [-6]))
        self.answered(boxed(100, 6, [101, 97, 100]), (break_box(0), [3]), (trial(0), [-6]), (break_box(0), [-6]))
        self.answered(boxed(100, 6, [100] * 6), (break_box(0), [6]), (break_box(0), [-6]))

    def test_its_coins_are_in_the_pot(self):
        before = boxed(100, 6, [101, 97, 100])
        self.answered(before, (pot(), [1997002, 1997002 * 24]), (break_box(0), [3]), (pot(), [1997300, 1997300 * 24]))

    def test_the_stock_stays_and_so_does_what_was_ever_struck(self):
        self.answered(boxed(100, 6, [101, 97]), (stock(0), [18, 1800, 2, 20]), (break_box(0), [2]),
                      (stock(0), [18, 1800, 0, 20]))

    def test_each_tenth_is_counted_on(self):
        before = boxed(100, 6, [101]) + [break_box(0), strike(0, 0, [100] * 8)]
        self.answered(before, (strike(0, 0, [100]), [1]), (trial(0), [-6]), (strike(0, 0, [102]), [1]),
                      (trial(0), [1, 1, 102]))

    def test_there_is_room_for_as_many_coins(self):
        before = boxed(100, 6, [100] * 6)
        self.answered(before, (strike(0, 0, [100] * 8), [0]), (break_box(0), [6]), (strike(0, 0, [100] * 8), [6]))

    def test_whether_it_passes_or_not(self):
        for weight in (94, 96, 97, 103, 104, 106):
            self.answered(boxed(100, 6, [weight]), (break_box(0), [1]), (pot(), [1999100, 1999100 * 24]))

    def test_as_metal_of_its_kind(self):
        before = [begin(0), kind(100, 20, 5), die(0, 50), add(1000, 200), strike(0, 0, [100] * 8),
                  strike(0, 0, [100, 103])]
        self.answered(before + [add(0, 100)], (pot(), [297, 3940]), (fits(0), [0]), (break_box(0), [1]),
                      (pot(), [400, 6000]), (need(0), [500, 500, 0]))
        self.answered(before, (break_box(0), [1]), (fits(0), [1]))

    def test_into_an_empty_pot(self):
        before = [begin(0), kind(100, 7, 0), die(0, 50), add(7 * 50, 17 * 50), strike(0, 0, [100] * 8),
                  strike(0, 0, [100] * 4)]
        self.answered(before, (pot(), [0, 0]), (break_box(0), [1]), (pot(), [100, 700]))

    def test_the_pot_just_full_and_one_above(self):
        before = boxed(100, 6, [101])
        self.answered(before + [add(0, 900)], (pot(), [1999899, 1998999 * 24]), (break_box(0), [1]),
                      (pot(), [2000000, 1999100 * 24]))
        self.answered(before + [add(0, 901)], (pot(), [1999900, 1998999 * 24]), (break_box(0), [-28]),
                      (pot(), [1999900, 1998999 * 24]), (trial(0), [1, 1, 101]))
        self.answered(before + [add(0, 1001)], (pot(), [2000000, 1998999 * 24]), (break_box(0), [-28]))

    def test_each_kind_has_its_own_box(self):
        before = [begin(0), kind(10, 24, 1), kind(20, 24, 1), die(0, 100), die(1, 100), add(5000, 0)]
        before += [strike(0, 0, [10] * 8), strike(0, 0, [10] * 2), strike(1, 1, [20] * 8), strike(1, 1, [20] * 2)]
        self.answered(before, (break_box(1), [1]), (trial(1), [-6]), (trial(0), [1, 1, 10]), (pot(), [4720, 113280]))

    def test_which_refusal(self):
        full = boxed(100, 6, [101]) + [add(1001, 0)]
        self.answered([begin(0)], (break_box(0), [-2]))
        self.answered(full, (break_box(2), [-2]), (break_box(4), [-2]), (break_box(TOP), [-2]), (break_box(1), [-6]),
                      (break_box(0), [-28]))

    def test_refused_leaves_all_as_it_was(self):
        before = boxed(100, 6, [101]) + [add(901, 0), add(0, 1), back()]
        self.left_as_it_was(before, break_box(0), -28)
        self.left_as_it_was(before, break_box(1), -6)
        self.left_as_it_was(before, break_box(2), -2)

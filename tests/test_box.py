"""Promise 7: mi_trial and mi_open."""

from tests.helper import MintCase, TOP, run
from tests.helper import begin, kind, die, add, strike, enough, trial, open_box


def boxed(grains, remedy, weights):
    """Calls after which the box of kind 0 has coins of these weights, each behind nine that are just right."""
    calls = [begin(0), kind(grains, 24, remedy), die(0, 1000), kind(1, 24, 0)] + [add(100000, 0)] * 20
    for weight in weights:
        calls += [strike(0, 0, [grains] * 8), strike(0, 0, [grains, weight])]
    return calls


class Trial(MintCase):
    def test_how_many_and_their_weights(self):
        self.answered(boxed(100, 6, [101]), (trial(0), [1, 1, 101]))
        self.answered(boxed(100, 6, [101, 97, 100]), (trial(0), [1, 3, 298]))
        self.answered(boxed(100, 6, [100] * 6), (trial(0), [1, 6, 600]))

    def test_one_coin_by_half_the_remedy(self):
        for weight, told in ((94, 0), (96, 0), (97, 1), (100, 1), (103, 1), (104, 0), (106, 0)):
            self.answered(boxed(100, 6, [weight]), (trial(0), [told, 1, weight]))

    def test_half_of_an_odd_remedy_is_not_rounded(self):
        for weight, told in ((97, 0), (98, 1), (102, 1), (103, 0)):
            self.answered(boxed(100, 5, [weight]), (trial(0), [told, 1, weight]))
        for weights, told in (((103, 102), 1), ((103, 103), 0), ((97, 98), 1), ((97, 97), 0)):
            self.answered(boxed(100, 5, weights), (trial(0), [told, 2, sum(weights)]))
        for weights, told in (((103, 102, 102), 1), ((103, 103, 102), 0), ((97, 98, 98), 1), ((97, 97, 98), 0)):
            self.answered(boxed(100, 5, weights), (trial(0), [told, 3, sum(weights)]))

    def test_with_no_remedy(self):
        self.answered(boxed(100, 0, [100, 100]), (trial(0), [1, 2, 200]))

    def test_with_a_remedy_of_1(self):
        for weights, told in (((101,), 0), ((101, 100), 1), ((101, 101), 0), ((99, 100), 1), ((99, 99, 100), 0),
                              ((99, 100, 100), 1)):
            self.answered(boxed(100, 1, weights), (trial(0), [told, len(weights), sum(weights)]))

    def test_weights_make_up_for_each_other(self):
        self.answered(boxed(100, 6, [106, 94]), (trial(0), [1, 2, 200]))
        self.answered(boxed(10000, 100, [10100, 10000]), (trial(0), [1, 2, 20100]))
        self.answered(boxed(10000, 100, [10100, 10001]), (trial(0), [0, 2, 20101]))

    def test_only_the_box_counts(self):
        before = [begin(0), kind(100, 24, 6), die(0, 1000), add(100000, 0)]
        before += [strike(0, 0, [106] * 8), strike(0, 0, [106, 100])]
        self.answered(before, (trial(0), [1, 1, 100]))

    def test_refusals(self):
        self.assertEqual(self.last(trial(0)), [-2])
        self.answered([begin(0), kind(100, 24, 6)], (trial(0), [-6]), (trial(1), [-2]), (trial(TOP), [-2]))
        self.left_as_it_was(boxed(100, 6, [101]), trial(1), -6)
        self.left_as_it_was(boxed(100, 6, [101]), trial(2), -2)

    def test_looking_changes_nothing(self):
        before = boxed(100, 6, [101])
        self.answered(before, (trial(0), [1, 1, 101]), (trial(0), [1, 1, 101]), (open_box(0), [1]))


class Open(MintCase):
    def test_how_many_they_were(self):
        self.answered(boxed(100, 6, [101]), (open_box(0), [1]), (trial(0), [-6]), (open_box(0), [-6]))
        self.answered(boxed(100, 6, [101, 97, 100]), (open_box(0), [3]), (open_box(0), [-6]))

    def test_nothing_comes_from_or_to_the_pot(self):
        before = boxed(100, 6, [101])
        self.answered(before, (enough(1), [2000000 - 1001]), (open_box(0), [1]), (enough(1), [2000000 - 1001]))

    def test_just_passes_and_just_does_not(self):
        self.answered(boxed(100, 6, [103]), (open_box(0), [1]))
        self.answered(boxed(100, 6, [104]), (open_box(0), [-33]), (trial(0), [0, 1, 104]), (open_box(0), [-33]))
        self.answered(boxed(100, 5, [103, 102]), (open_box(0), [2]))
        self.answered(boxed(100, 5, [103, 103]), (open_box(0), [-33]))
        self.answered(boxed(100, 5, [97]), (open_box(0), [-33]))

    def test_a_box_that_passes_later(self):
        before = boxed(100, 6, [106])
        more = [strike(0, 0, [100] * 8), strike(0, 0, [100])]
        self.answered(before + more, (open_box(0), [-33]), (strike(0, 0, [100]), [1]), (trial(0), [1, 2, 206]),
                      (open_box(0), [2]))

    def test_each_kind_has_its_own_box(self):
        before = [begin(0), kind(10, 24, 1), kind(20, 24, 1), die(0, 100), die(1, 100), add(5000, 0)]
        before += [strike(0, 0, [10] * 8), strike(0, 0, [10] * 2), strike(1, 1, [20] * 8), strike(1, 1, [20] * 2)]
        self.answered(before, (open_box(1), [1]), (trial(1), [-6]), (trial(0), [1, 1, 10]), (open_box(0), [1]))

    def test_which_refusal(self):
        self.answered([begin(0), kind(100, 24, 6)], (open_box(0), [-6]), (open_box(1), [-2]), (open_box(TOP), [-2]))

    def test_refused_leaves_all_as_it_was(self):
        before = boxed(100, 6, [106])
        self.left_as_it_was(before, open_box(0), -33)
        self.left_as_it_was(before, open_box(1), -6)
        self.left_as_it_was(before, open_box(2), -2)

    def test_the_coins_stay_the_mints(self):
        before = boxed(100, 6, [100] * 5)
        full = run(before + [open_box(0), strike(0, 0, [100] * 8), strike(0, 0, [100] * 8)])
        self.assertEqual(full[-3:], [[5], [8], [2]])

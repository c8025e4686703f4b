"""Promise 1: mi_begin, and what is not there."""

from tests.helper import MintCase, TOP, run
from tests.helper import begin, kind, die, bring, old, add, melt, fits, need, plan, strike, enough, trial, open_box
from tests.helper import break_box, pay, credit, stock, off, all_that_tells


class Begin(MintCase):
    def test_keeps_up_to_500(self):
        self.assertEqual(run([begin(0)]), [[0]])
        self.assertEqual(run([begin(500)]), [[0]])

    def test_more_is_refused_ahead_of_the_first_that_answers_0(self):
        calls = [begin(501), begin(TOP), begin(501), begin(7), bring(0, 100, 2400)]
        self.assertEqual(run(calls), [[-22], [-22], [-22], [0], [0, 2383]])

    def test_refused_later_leaves_all_as_it_was(self):
        before = busy_mint()
        self.left_as_it_was(before, begin(501), -22)
        self.left_as_it_was(before, begin(TOP), -22)

    def test_refused_later_keeps_as_before(self):
        calls = [begin(100), begin(501), bring(0, 10, 100)]
        self.assertEqual(run(calls), [[0], [-22], [0, 90]])

    def test_begun_again_all_is_as_at_first(self):
        later = [
            bring(0, 1000, 20000), kind(100, 20, 5), fits(0), need(0), trial(0), enough(0), die(0, 20), add(5, 1),
            strike(0, 0, [6]), trial(0), strike(0, 0, [100] * 8), melt(1), strike(0, 0, [100] * 8),
            strike(0, 0, [100] * 8), trial(0), strike(1, 0, [1]), strike(0, 1, [1]), melt(2),
        ] + all_that_tells()
        fresh = run([begin(30)] + later)
        again = run(busy_mint() + [begin(30)] + later)
        self.assertEqual(again[len(busy_mint()):], fresh)

    def test_begun_again_keeps_the_other_thousandths(self):
        calls = [begin(500), bring(0, 10, 100), begin(100), bring(0, 10, 100), begin(0), bring(0, 10, 100)]
        self.assertEqual(run(calls), [[0], [0, 50], [0], [0, 90], [0], [0, 100]])

    def test_begun_again_tenths_are_counted_anew(self):
        setup = [kind(100, 24, 5), die(0, 100), add(5000, 0), strike(0, 0, [100] * 8)]
        calls = [begin(0)] + setup + [begin(0)] + setup + [trial(0), strike(0, 0, [100]), trial(0),
                                                          strike(0, 0, [101]), trial(0)]
        self.assertEqual(run(calls)[-5:], [[-6], [1], [-6], [1], [1, 1, 101]])


class NotThere(MintCase):
    def test_a_kind_that_is_not_there(self):
        for k in (1, 2, 4, TOP):
            with self.subTest(k=k):
                self.answered(
                    [begin(0), kind(100, 20, 5), die(0, 9), add(2, 0)],
                    (die(k, 0), [-2]), (die(k, TOP), [-2]), (old(0, k, 0), [-2]), (old(0, k, TOP), [-2]),
                    (fits(k), [-2]), (need(k), [-2]), (plan(k, 0), [-2]), (plan(k, TOP), [-2]),
                    (strike(k, 0, [100]), [-2]), (strike(k, 0, [100], n=0), [-2]), (enough(k), [-2]),
                    (trial(k), [-2]), (open_box(k), [-2]), (break_box(k), [-2]), (pay(0, k, 0), [-2]),
                    (pay(0, k, TOP), [-2]), (stock(k), [-2]), (off(k), [-2]))

    def test_no_kind_at_all(self):
        self.answered([begin(0)], (die(0, 1), [-2]), (fits(0), [-2]), (need(0), [-2]), (plan(0, 0), [-2]),
                      (enough(0), [-2]), (trial(0), [-2]), (open_box(0), [-2]), (old(0, 0, 1), [-2]),
                      (break_box(0), [-2]), (pay(0, 0, 0), [-2]), (stock(0), [-2]), (off(0), [-2]))

    def test_a_die_that_is_not_there(self):
        before = [begin(0), kind(100, 20, 5), die(0, 9)]
        for number in (1, 6, TOP):
            self.answered(before, (strike(0, number, [100]), [-2]), (strike(0, number, [100], n=9), [-2]))

    def test_people_are_0_to_5(self):
        before = [begin(0), kind(100, 20, 5)]
        self.answered(before, (bring(5, 1, 1), [0, 1]), (old(5, 0, 1), [1, 20]), (credit(5), [21]),
                      (pay(5, 0, 1), [-12]))
        for p in (6, 7, TOP):
            self.answered(before, (bring(p, 1, 1), [-2]), (bring(p, 0, 1), [-2]), (bring(p, TOP, TOP), [-2]),
                          (old(p, 0, 1), [-2]), (old(p, 0, 0), [-2]), (old(p, 1, 1), [-2]), (credit(p), [-2]),
                          (pay(p, 0, 0), [-2]), (pay(p, 0, TOP), [-2]), (pay(p, 1, 1), [-2]))

    def test_none_is_there_is_told_ahead_of_no_room(self):
        full = [begin(0), kind(100, 20, 5)] + [bring(0, 1, 1)] * 10 + [die(0, 1)] * 6
        self.answered(full, (bring(6, 1, 1), [-2]), (old(6, 0, 1), [-2]), (old(0, 1, 1), [-2]), (die(1, 1), [-2]))


def busy_mint():
    return [
        begin(250), kind(100, 20, 3), kind(50, 20, 7), die(0, 100), die(1, 9), die(0, 1),
        bring(0, 777, 9999), bring(3, 1200, 24000), old(2, 1, 600), melt(2), melt(4),
        strike(0, 0, [100, 99, 101, 97, 103, 100, 100, 100]), strike(0, 0, [100, 102]),
    ]

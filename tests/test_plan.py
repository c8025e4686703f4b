"""Promise 5: mi_plan; the plan adds least."""

import random

from tests.helper import MintCase, TOP, run
from tests.helper import begin, kind, bring, add, melt, need, plan


def need_by_trying(grains, carats, fine, most):
    """The least gold that does, with its copper, found by trying one grain more at a time."""
    for gold in range(most + 1):
        carats_then = carats + 24 * gold
        grains_then, rest = divmod(carats_then, fine)
        if rest == 0 and grains_then >= grains + gold:
            return gold, grains_then - grains - gold
    return None


def plan_by_trying(pot, lots, fine, least, most):
    """The best of all choices, each weighed by itself: (added, lots, bits), or None."""
    found = []
    for bits in range(1 << len(lots)):
        chosen = [lot for place, lot in enumerate(lots) if bits >> place & 1]
        if any(lot is None for lot in chosen):
            continue
        grains = pot[0] + sum(lot[0] for lot in chosen)
        carats = pot[1] + sum(lot[1] for lot in chosen)
        what = need_by_trying(grains, carats, fine, most)
        if what is not None and grains + sum(what) >= least:
            found.append((sum(what), len(chosen), bits))
    return min(found) if found else None


class Plan(MintCase):
    def test_no_lots_chosen(self):
        self.assertEqual(self.last(kind(1, 22, 0), plan(0, 0)), [0, 0])
        self.assertEqual(self.last(kind(1, 22, 0), bring(0, 5, 110), plan(0, 0)), [0, 0])
        self.assertEqual(self.last(kind(1, 22, 0), add(11, 1), bring(0, 5, 110), plan(0, 12)), [0, 0])
        self.assertEqual(self.last(kind(1, 22, 0), add(11, 1), bring(0, 5, 110), plan(0, 13)), [0, 1])

    def test_what_is_added_counts_as_grains(self):
        before = [begin(0), kind(1, 12, 0), add(10, 0)]
        self.answered(before, (need(0), [10, 0, 10]), (plan(0, 20), [10, 0]), (plan(0, 21), [-33]))

    def test_least_is_added(self):
        lots = [bring(0, 10, 240), bring(0, 10, 100), bring(0, 10, 120), bring(0, 10, 140)]
        before = [begin(0), kind(1, 12, 0)] + lots
        self.answered(before, (plan(0, 1), [0, 0b0100]), (plan(0, 10), [0, 0b0100]))

    def test_lots_that_make_up_for_each_other(self):
        # Gold and copper in equal parts are 12 together, and nothing is added.
        before = [begin(0), kind(1, 12, 0), bring(0, 10, 240), bring(0, 30, 0), bring(0, 20, 480)]
        self.answered(before, (plan(0, 1), [0, 0b111]), (plan(0, 60), [0, 0b111]), (plan(0, 61), [-33]),
                      (plan(0, 0), [0, 0]))

    def test_less_added_goes_ahead_of_fewer_lots(self):
        before = [begin(0), kind(1, 12, 0), bring(0, 10, 240), bring(0, 10, 0), bring(0, 20, 216)]
        # Two lots with nothing added, against one lot with 2 of gold added.
        self.answered(before, (plan(0, 20), [0, 0b011]))

    def test_alike_in_what_is_added_the_fewest_lots(self):
        lots = [bring(0, 5, 60), bring(0, 5, 60), bring(0, 10, 120)]
        before = [begin(0), kind(1, 12, 0)] + lots
        self.answered(before, (plan(0, 5), [0, 0b001]), (plan(0, 6), [0, 0b100]), (plan(0, 10), [0, 0b100]),
                      (plan(0, 11), [0, 0b101]), (plan(0, 16), [0, 0b111]), (plan(0, 20), [0, 0b111]),
                      (plan(0, 21), [-33]))

    def test_alike_in_lots_too_the_least_bits(self):
        lots = [bring(0, 3, 36), bring(0, 5, 60), bring(0, 5, 60), bring(0, 5, 60), bring(0, 3, 36)]
        before = [begin(0), kind(1, 12, 0)] + lots
        self.answered(before, (plan(0, 4), [0, 0b00010]), (plan(0, 8), [0, 0b00011]), (plan(0, 9), [0, 0b00110]),
                      (plan(0, 13), [0, 0b00111]), (plan(0, 14), [0, 0b01110]), (plan(0, 1), [0, 0b00001]))

    def test_alike_with_something_added(self):
        before = [begin(0), kind(1, 12, 0), bring(0, 10, 96), bring(0, 5, 60), bring(0, 25, 276)]
        # Places 0 and 2 each ask for 2 of gold, place 1 for nothing.
        self.answered(before, (plan(0, 6), [2, 0b001]), (plan(0, 12), [2, 0b001]), (plan(0, 13), [2, 0b100]),
                      (plan(0, 27), [2, 0b100]), (plan(0, 28), [2, 0b110]), (plan(0, 33), [4, 0b101]),
                      (plan(0, 39), [4, 0b101]), (plan(0, 40), [4, 0b111]), (plan(0, 45), [-33]))

    def test_gold_and_copper_count_together(self):
        # Place 0 asks for 7 of copper and no gold, place 1 for 5 of gold and 1 of copper.
        before = [begin(0), kind(1, 22, 0), bring(0, 77, 1848), bring(0, 6, 144)]
        self.answered(before, (plan(0, 1), [6, 0b10]), (plan(0, 13), [7, 0b01]), (plan(0, 85), [13, 0b11]))

    def test_empty_places_are_not_chosen(self):
        before = [begin(0), kind(1, 12, 0), bring(0, 5, 60), bring(0, 5, 60), bring(0, 5, 60)]
        self.answered(before, (melt(0b010), [5]), (plan(0, 10), [0, 0b001]), (plan(0, 15), [0, 0b101]),
                      (plan(0, 16), [-33]))

    def test_all_ten_lots(self):
        lots = [bring(0, 1 << place, 22 << place) for place in range(10)]
        before = [begin(0), kind(1, 22, 0)] + lots
        for least in (1023, 1022, 1021):
            self.answered(before, (plan(0, least), [0, least]))
        self.answered(before, (plan(0, 1024), [-33]), (plan(0, 512), [0, 512]), (plan(0, 513), [0, 513]))

    def test_choices_for_which_nothing_does_are_passed_over(self):
        # Copper in a lot never becomes as fine as gold.
        before = [begin(0), kind(1, 24, 0), bring(0, 50, 1199), bring(0, 10, 240), bring(0, 20, 480)]
        self.answered(before, (plan(0, 1), [0, 0b010]), (plan(0, 20), [0, 0b100]), (plan(0, 30), [0, 0b110]),
                      (plan(0, 31), [-33]))

    def test_no_plan(self):
        self.assertEqual(self.last(kind(1, 22, 0), plan(0, 1)), [-33])
        self.assertEqual(self.last(kind(1, 24, 0), add(0, 1), bring(0, 10, 240), plan(0, 0)), [-33])
        self.assertEqual(self.last(kind(1, 12, 0), bring(0, 10, 11), plan(0, 1)), [-33])

    def test_two_lots_where_neither_does_alone(self):
        before = [begin(0), kind(1, 12, 0), bring(0, 1, 11), bring(0, 1, 13)]
        self.answered(before, (plan(0, 1), [0, 0b11]))

    def test_least_at_most_2000000(self):
        gold = [begin(0), kind(1, 24, 0)] + [add(100000, 0)] * 20
        self.answered(gold, (plan(0, 2000000), [0, 0]), (plan(0, 2000001), [-22]), (plan(0, TOP), [-22]))

    def test_choices_may_have_more_than_the_pot_holds(self):
        lots = [bring(0, 100000, 0)] * 10
        before = [begin(0), kind(1, 23, 0)] + [add(0, 100000)] * 19 + lots
        self.answered(before, (plan(0, 2000000), [1900000 * 23, 0]))
        gold = [begin(0), kind(1, 24, 0)] + [add(100000, 0)] * 19 + [add(99999, 0), bring(0, 100000, 2400000)]
        self.answered(gold, (plan(0, 2000000), [0, 1]))

    def test_which_refusal(self):
        before = [begin(0), kind(1, 24, 0), add(0, 1)]
        self.answered(before, (plan(1, TOP), [-2]), (plan(TOP, 0), [-2]), (plan(0, 2000001), [-22]),
                      (plan(0, 2000000), [-33]), (plan(0, 0), [-33]))

    def test_looking_changes_nothing(self):
        before = [begin(0), kind(100, 22, 2), bring(0, 50, 1000), bring(1, 60, 1400), add(10, 20)]
        self.left_as_it_was(before, plan(1, 0), -2)
        self.left_as_it_was(before, plan(0, 2000001), -22)
        self.left_as_it_was(before, plan(0, 2000000), -33)
        told = run(before + [plan(0, 100), plan(0, 100), melt(0b11)])
        self.assertEqual(told[-3], told[-2])
        self.assertEqual(told[-1], [140])

    def test_against_all_choices_tried(self):
        chance = random.Random(5)
        for turn in range(150):
            fine = chance.randint(1, 24)
            pot = (chance.randint(0, 3), chance.randint(0, 3))
            lots = [a_lot(chance, fine) for place in range(chance.randint(0, 6))]
            least = chance.choice((0, 1, 5, 10, 20, 40))
            calls = [begin(0), kind(1, fine, 0)] + [add(*pot)] * (pot != (0, 0))
            calls += [bring(0, grains, carats) for grains, carats in lots]
            best = plan_by_trying((sum(pot), 24 * pot[0]), lots, fine, least, 3000)
            wanted = [-33] if best is None else [best[0], best[2]]
            with self.subTest(turn=turn, fine=fine, pot=pot, lots=lots, least=least):
                self.assertEqual(run(calls + [plan(0, least)])[-1], wanted)


def a_lot(chance, fine):
    grains = chance.randint(1, 12)
    if chance.randint(0, 2) == 0:
        return grains, fine * grains
    return grains, chance.randint(0, 24 * grains)

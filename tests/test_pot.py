"""Promise 4: mi_melt and mi_add."""

from tests.helper import MintCase, TOP
from tests.helper import begin, kind, bring, add, melt, need, fits, enough, plan


def pot_of(grains):
    """Calls that put so many grains of copper into the pot."""
    calls = [add(0, 100000)] * (grains // 100000)
    return calls + ([add(0, grains % 100000)] if grains % 100000 else [])


class Melt(MintCase):
    def test_lots_go_into_the_pot(self):
        before = [begin(0), kind(1, 12, 0), bring(0, 10, 120), bring(1, 20, 480), bring(2, 40, 0)]
        self.answered(before, (melt(0b101), [50]), (enough(0), [50]), (need(0), [40, 40, 0]), (melt(0b001), [-2]),
                      (melt(0b100), [-2]), (melt(0b010), [70]), (need(0), [20, 20, 0]), (fits(0), [0]),
                      (melt(0b010), [-2]))

    def test_each_place(self):
        lots = [bring(0, 1 << place, 0) for place in range(10)]
        for place in range(10):
            self.assertEqual(self.last(*lots, melt(1 << place)), [1 << place])
        for bits in (1023, 1022, 511, 0b1010101010, 0b0101010101):
            self.assertEqual(self.last(*lots, melt(bits)), [bits])

    def test_lots_as_bits(self):
        lots = [bring(0, 1, 0)] * 10
        self.answered([begin(0)] + lots, (melt(0), [-22]), (melt(1024), [-22]), (melt(1025), [-22]), (melt(TOP), [-22]),
                      (melt(1023), [10]), (melt(1023), [-2]), (melt(0), [-22]), (melt(1024), [-22]))

    def test_one_empty_place_is_enough_to_refuse(self):
        before = [begin(0), bring(0, 1, 0), bring(0, 2, 0)]
        self.answered(before, (melt(0b111), [-2]), (melt(0b100), [-2]), (melt(1 << 9), [-2]), (melt(0b11), [3]))

    def test_2000000_grains(self):
        before = [begin(0)] + pot_of(1900000) + [bring(0, 100000, 0), bring(0, 1, 0)]
        self.answered(before, (melt(0b11), [-28]), (melt(0b01), [2000000]), (melt(0b10), [-28]))
        self.answered(before, (melt(0b10), [1900001]), (melt(0b01), [-28]))

    def test_which_refusal(self):
        full = [begin(0)] + pot_of(2000000) + [bring(0, 1, 0)]
        self.answered(full, (melt(0), [-22]), (melt(1024), [-22]), (melt(2), [-2]), (melt(3), [-2]), (melt(1), [-28]))

    def test_refused_leaves_all_as_it_was(self):
        before = [begin(0), kind(100, 24, 5), kind(9, 3, 1), bring(0, 7, 9), bring(0, 8, 11), add(5, 5)]
        for refused, number in ((melt(0), -22), (melt(1024), -22), (melt(0b101), -2), (melt(0b111), -2)):
            self.left_as_it_was(before, refused, number)
        full = [begin(0), kind(100, 24, 5)] + pot_of(1999990) + [bring(0, 7, 9), bring(0, 8, 11)]
        self.left_as_it_was(full, melt(3), -28)


class Add(MintCase):
    def test_gold_and_copper(self):
        before = [begin(0), kind(1, 12, 0)]
        self.answered(before, (add(10, 0), [10]), (need(0), [10, 0, 10]), (add(0, 4), [14]), (need(0), [6, 0, 6]),
                      (add(1, 7), [22]), (fits(0), [1]), (enough(0), [22]))

    def test_not_both_0(self):
        self.assertEqual(self.last(add(0, 0)), [-22])
        self.assertEqual(self.last(add(1, 0)), [1])
        self.assertEqual(self.last(add(0, 1)), [1])

    def test_each_at_most_100000(self):
        self.assertEqual(self.last(add(100000, 100000)), [200000])
        for wrong in (add(100001, 0), add(0, 100001), add(100001, 5), add(5, 100001), add(TOP, 0), add(0, TOP),
                      add(TOP, TOP)):
            self.assertEqual(self.last(wrong), [-22])

    def test_2000000_grains(self):
        self.answered([begin(0)] + [add(100000, 100000)] * 9, (add(100000, 99999), [1999999]), (add(2, 0), [-28]),
                      (add(1, 1), [-28]), (add(0, 2), [-28]), (add(1, 0), [2000000]), (add(1, 0), [-28]),
                      (add(0, 1), [-28]))

    def test_which_refusal(self):
        self.answered([begin(0)] + pot_of(2000000), (add(0, 0), [-22]), (add(100001, 0), [-22]),
                      (add(0, TOP), [-22]), (add(0, 100000), [-28]))

    def test_refused_leaves_all_as_it_was(self):
        before = [begin(0), kind(100, 24, 5), kind(9, 3, 1), bring(0, 7, 9), add(5, 5)]
        for refused in (add(0, 0), add(100001, 1), add(1, 100001)):
            self.left_as_it_was(before, refused, -22)
        full = [begin(0), kind(100, 24, 5), kind(9, 3, 1)] + pot_of(1999990) + [bring(0, 7, 9)]
        self.left_as_it_was(full, add(6, 5), -28)

    def test_lots_stay_where_they_are(self):
        self.answered([begin(0), kind(1, 24, 0), bring(0, 5, 120)], (add(3, 0), [3]), (plan(0, 8), [0, 1]),
                      (melt(1), [8]))

"""Promise 3: mi_bring and mi_old, and what the mint keeps."""

from tests.helper import MintCase, TOP, run
from tests.helper import begin, kind, bring, old, melt, need, fits, enough


class Bring(MintCase):
    def test_the_least_place_that_is_empty(self):
        self.answered([begin(0)], (bring(0, 10, 100), [0, 100]), (bring(1, 10, 100), [1, 100]),
                      (bring(2, 10, 100), [2, 100]), (melt(0b010), [10]), (bring(3, 10, 7), [1, 7]),
                      (melt(0b101), [30]), (bring(3, 10, 8), [0, 8]), (bring(3, 10, 9), [2, 9]),
                      (bring(3, 10, 9), [3, 9]))

    def test_ten_lots(self):
        pairs = [(bring(place % 6, 1 + place, place), [place, place]) for place in range(10)]
        self.answered([begin(0)], *pairs, (bring(0, 1, 1), [-28]), (melt(1 << 9), [10]), (bring(0, 1, 1), [9, 1]),
                      (bring(0, 1, 1), [-28]))

    def test_grains_1_to_100000(self):
        self.assertEqual(self.last(bring(0, 1, 24)), [0, 24])
        self.assertEqual(self.last(bring(0, 100000, 2400000)), [0, 2400000])
        for grains in (0, 100001, TOP):
            self.assertEqual(self.last(bring(0, grains, 0)), [-22])

    def test_carats_at_most_24_a_grain(self):
        for grains in (1, 7, 100000):
            self.assertEqual(self.last(bring(0, grains, 0)), [0, 0])
            self.assertEqual(self.last(bring(0, grains, 24 * grains)), [0, 24 * grains])
            self.assertEqual(self.last(bring(0, grains, 24 * grains + 1)), [-22])
            self.assertEqual(self.last(bring(0, grains, TOP)), [-22])

    def test_a_lot_without_gold_takes_a_place(self):
        self.answered([begin(0)], (bring(0, 5, 0), [0, 0]), (bring(0, 5, 0), [1, 0]), (melt(1), [5]))

    def test_which_refusal(self):
        full = [begin(0)] + [bring(0, 1, 1)] * 10
        self.answered(full, (bring(6, 0, 1), [-2]), (bring(TOP, TOP, TOP), [-2]), (bring(0, 0, 0), [-22]),
                      (bring(0, 1, 25), [-22]), (bring(0, 1, 24), [-28]))

    def test_refused_leaves_all_as_it_was(self):
        before = [begin(9), kind(100, 20, 3), bring(0, 7, 100), bring(0, 8, 101)]
        self.left_as_it_was(before, bring(6, 1, 1), -2)
        self.left_as_it_was(before, bring(0, 0, 0), -22)
        self.left_as_it_was(before, bring(0, 1, 25), -22)
        self.left_as_it_was(before + [bring(0, 3, 3)] * 8, bring(0, 1, 1), -28)

    def test_the_metal_is_what_was_brought(self):
        self.answered([begin(500), kind(1, 12, 0)], (bring(4, 10, 24), [0, 12]), (melt(1), [10]),
                      (enough(0), [10]), (need(0), [8, 8, 0]))


class Keeps(MintCase):
    def test_rounded_up(self):
        for keeps, carats, grows in ((0, 100, 100), (1, 1, 0), (1, 1000, 999), (1, 1001, 999), (1, 999, 998),
                                     (500, 1, 0), (500, 2, 1), (500, 3, 1), (333, 3, 2), (334, 3, 1), (7, 0, 0),
                                     (500, 2400, 1200), (499, 2400, 1202), (3, 2000, 1994), (3, 2001, 1994)):
            with self.subTest(keeps=keeps, carats=carats):
                self.assertEqual(run([begin(keeps), bring(0, 100, carats)])[-1], [0, grows])

    def test_the_largest_lot(self):
        self.assertEqual(run([begin(499), bring(0, 100000, 2399999)])[-1], [0, 1202399])

    def test_each_lot_by_itself(self):
        self.assertEqual(run([begin(1), bring(0, 1, 5), bring(0, 1, 5)]), [[0], [0, 4], [1, 4]])

    def test_of_old_coin_too(self):
        self.answered([begin(100), kind(10, 7, 1)], (old(0, 0, 3), [0, 18]), (old(0, 0, 10), [1, 63]))


class Old(MintCase):
    def test_as_fine_as_the_kind(self):
        before = [begin(0), kind(10, 7, 1), kind(1, 24, 0)]
        self.answered(before, (old(0, 0, 10), [0, 70]), (old(5, 1, 10), [1, 240]), (melt(1), [10]), (fits(0), [1]),
                      (fits(1), [0]), (melt(2), [20]), (fits(0), [0]), (need(0), [38, 4, 34]))

    def test_grains_1_to_100000(self):
        self.assertEqual(self.last(kind(10, 24, 1), old(0, 0, 1)), [0, 24])
        self.assertEqual(self.last(kind(10, 24, 1), old(0, 0, 100000)), [0, 2400000])
        for grains in (0, 100001, TOP):
            self.assertEqual(self.last(kind(10, 24, 1), old(0, 0, grains)), [-22])

    def test_places_likewise(self):
        before = [begin(0), kind(10, 2, 1)] + [bring(0, 1, 1)] * 10
        self.answered(before, (old(0, 0, 1), [-28]), (melt(0b1001000), [2]), (old(0, 0, 1), [3, 2]),
                      (old(1, 0, 2), [6, 4]), (old(0, 0, 1), [-28]), (old(0, 0, 0), [-22]), (old(0, 1, 0), [-2]),
                      (old(6, 0, 0), [-2]), (old(6, 1, 1), [-2]))

    def test_refused_leaves_all_as_it_was(self):
        before = [begin(9), kind(100, 20, 3), bring(0, 7, 100)]
        self.left_as_it_was(before, old(6, 0, 1), -2)
        self.left_as_it_was(before, old(0, 1, 1), -2)
        self.left_as_it_was(before, old(0, 0, 0), -22)
        self.left_as_it_was(before + [old(0, 0, 3)] * 9, old(0, 0, 1), -28)

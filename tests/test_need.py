"""Promise 5: mi_fits and mi_need; the least is added."""

from tests.helper import MintCase, TOP
from tests.helper import begin, kind, bring, add, melt, need, fits


def all_that_do(grains, carats, fine, most):
    """Each gold and copper, up to so much, that makes the metal as fine."""
    return [(gold, copper) for gold in range(most + 1) for copper in range(most + 1)
            if carats + 24 * gold == fine * (grains + gold + copper)]


class Fits(MintCase):
    def test_carats_are_fine_times_grains(self):
        before = [begin(0), kind(100, 22, 2), kind(5, 24, 2), kind(5, 1, 1)]
        self.answered(before + [add(22, 2)], (fits(0), [1]), (fits(1), [0]), (fits(2), [0]))
        self.answered(before + [add(22, 3)], (fits(0), [0]))
        self.answered(before + [add(23, 2)], (fits(0), [0]))
        self.answered(before + [add(1, 0)], (fits(0), [0]), (fits(1), [1]), (fits(2), [0]))
        self.answered(before + [add(1, 23)], (fits(0), [0]), (fits(1), [0]), (fits(2), [1]))

    def test_by_one_carat(self):
        for carats, told in ((2199, 0), (2200, 1), (2201, 0)):
            self.assertEqual(self.last(kind(100, 22, 2), bring(0, 100, carats), melt(1), fits(0)), [told])

    def test_no_metal_is_as_fine_as_any(self):
        for fine in range(1, 25):
            self.assertEqual(self.last(kind(100, fine, 2), fits(0)), [1])

    def test_copper_is_as_fine_as_none(self):
        for fine in range(1, 25):
            self.assertEqual(self.last(kind(100, fine, 2), add(0, 1), fits(0)), [0])

    def test_no_such_kind(self):
        self.assertEqual(self.last(kind(100, 22, 2), fits(1)), [-2])
        self.assertEqual(self.last(kind(100, 22, 2), fits(TOP)), [-2])


class Need(MintCase):
    def needed(self, grains, carats, fine):
        return self.last(kind(1, fine, 0), bring(0, grains, carats), melt(1), need(0))

    def test_nothing_where_it_is_as_fine(self):
        self.assertEqual(self.last(kind(1, 22, 0), need(0)), [0, 0, 0])
        self.assertEqual(self.needed(12, 264, 22), [0, 0, 0])
        self.assertEqual(self.needed(12, 288, 24), [0, 0, 0])

    def test_only_gold(self):
        self.assertEqual(self.needed(10, 24, 12), [8, 8, 0])
        self.assertEqual(self.needed(2, 0, 22), [22, 22, 0])

    def test_only_copper(self):
        self.assertEqual(self.needed(11, 264, 22), [1, 0, 1])
        self.assertEqual(self.needed(10, 24, 1), [14, 0, 14])

    def test_both(self):
        # 6 grains of pure gold, to be 22: each copper asks for 11 of gold.
        self.assertEqual(self.needed(6, 144, 22), [6, 5, 1])
        self.assertEqual(self.needed(20, 310, 7), [38, 4, 34])

    def test_nothing_makes_it_as_fine_as_gold(self):
        self.assertEqual(self.needed(100, 2399, 24), [-33])
        self.assertEqual(self.needed(1, 0, 24), [-33])

    def test_nothing_makes_it_as_fine_for_its_carats(self):
        self.assertEqual(self.needed(10, 20, 12), [-33])
        self.assertEqual(self.needed(10, 11, 16), [-33])
        self.assertEqual(self.needed(10, 12, 16), [-33])
        self.assertEqual(self.needed(10, 16, 16), [18, 18, 0])
        self.assertEqual(self.needed(10, 239, 2), [-33])
        self.assertEqual(self.needed(10, 238, 2), [109, 0, 109])

    def test_much(self):
        copper = [add(0, 100000)] * 20
        self.assertEqual(self.last(kind(1, 23, 0), *copper, need(0)), [46000000, 46000000, 0])
        self.assertEqual(self.last(kind(1, 1, 0), *copper, need(0)), [86968, 86957, 11])
        gold = [add(100000, 0)] * 20
        self.assertEqual(self.last(kind(1, 1, 0), *gold, need(0)), [46000000, 0, 46000000])

    def test_the_least_of_all_that_do(self):
        for fine in range(1, 25):
            for grains in (1, 2, 3):
                for carats in range(0, 24 * grains + 1, 1 if grains < 3 else 5):
                    told = self.needed(grains, carats, fine)
                    do = all_that_do(grains, carats, fine, 95)
                    with self.subTest(fine=fine, grains=grains, carats=carats):
                        if not do:
                            self.assertEqual(told, [-33])
                        else:
                            gold = min(gold for gold, copper in do)
                            copper = min(copper for gold, copper in do)
                            self.assertEqual(told, [gold + copper, gold, copper])

    def test_added_it_fits(self):
        for grains, carats, fine in ((777, 9999, 23), (100000, 1, 17), (54321, 1303704, 5), (1, 1, 19), (9, 9, 3)):
            together, gold, copper = self.needed(grains, carats, fine)
            self.assertEqual(together, gold + copper)
            adds = [add(min(gold - at, 100000), 0) for at in range(0, gold, 100000)]
            adds += [add(0, min(copper - at, 100000)) for at in range(0, copper, 100000)]
            start = [kind(1, fine, 0), bring(0, grains, carats), melt(1)]
            self.assertEqual(self.last(*start, *adds, fits(0)), [1])
            self.assertEqual(self.last(*start, *adds, need(0)), [0, 0, 0])

    def test_refusals(self):
        self.assertEqual(self.last(need(0)), [-2])
        self.assertEqual(self.last(kind(1, 24, 0), add(0, 1), need(1)), [-2])
        self.assertEqual(self.last(kind(1, 24, 0), add(0, 1), need(TOP)), [-2])
        self.assertEqual(self.last(kind(1, 24, 0), add(0, 1), need(0)), [-33])

    def test_looking_changes_nothing(self):
        before = [begin(0), kind(100, 22, 2), kind(1, 24, 0), bring(0, 50, 1000), add(10, 20)]
        self.left_as_it_was(before, need(1), -33)
        self.left_as_it_was(before, need(2), -2)
        self.left_as_it_was(before, fits(2), -2)
        self.answered(before, (need(0), [210, 210, 0]), (fits(0), [0]), (need(0), [210, 210, 0]))

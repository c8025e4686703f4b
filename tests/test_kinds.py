"""Promise 2: mi_kind and mi_die."""

from tests.helper import MintCase, TOP
from tests.helper import begin, kind, die, add, strike


class Kinds(MintCase):
    def test_numbered_from_0_at_most_4(self):
        self.answered([begin(0)], (kind(100, 22, 2), [0]), (kind(100, 22, 2), [1]), (kind(1, 1, 0), [2]),
                      (kind(10000, 24, 100), [3]), (kind(100, 22, 2), [-28]), (kind(100, 22, 2), [-28]))

    def test_grains_1_to_10000(self):
        self.assertEqual(self.last(kind(1, 12, 0)), [0])
        self.assertEqual(self.last(kind(10000, 12, 0)), [0])
        for grains in (0, 10001, TOP):
            self.assertEqual(self.last(kind(grains, 12, 0)), [-22])

    def test_fine_1_to_24(self):
        for fine in range(1, 25):
            self.assertEqual(self.last(kind(10, fine, 0)), [0])
        for fine in (0, 25, TOP):
            self.assertEqual(self.last(kind(10, fine, 0)), [-22])

    def test_remedy_at_most_100(self):
        self.assertEqual(self.last(kind(102, 12, 100)), [0])
        for remedy in (101, TOP):
            self.assertEqual(self.last(kind(10000, 12, remedy)), [-22])

    def test_remedy_less_than_grains(self):
        for grains in (1, 2, 50, 100, 101):
            self.assertEqual(self.last(kind(grains, 12, grains - 1)), [0])
            self.assertEqual(self.last(kind(grains, 12, grains)), [-22])

    def test_not_as_told_ahead_of_no_room(self):
        four = [begin(0)] + [kind(100, 22, 2)] * 4
        self.answered(four, (kind(0, 22, 2), [-22]), (kind(100, 25, 2), [-22]), (kind(100, 22, 101), [-22]),
                      (kind(TOP, TOP, TOP), [-22]), (kind(100, 22, 2), [-28]))

    def test_refused_leaves_all_as_it_was(self):
        before = [begin(0), kind(100, 22, 2), kind(20, 22, 2), kind(30, 22, 2), die(0, 5), add(1100, 100)]
        for refused in (kind(0, 1, 0), kind(1, 25, 0), kind(1, 1, 1)):
            self.left_as_it_was(before, refused, -22)
        self.left_as_it_was(before + [kind(7, 7, 1)], kind(100, 22, 2), -28)

    def test_refused_takes_no_number(self):
        self.answered([begin(0)], (kind(5, 5, 5), [-22]), (kind(5, 5, 4), [0]), (kind(5, 0, 4), [-22]),
                      (kind(5, 5, 4), [1]))


class Dies(MintCase):
    def test_numbered_from_0_at_most_6(self):
        before = [begin(0), kind(100, 22, 2), kind(100, 23, 2)]
        self.answered(before, (die(0, 1), [0]), (die(1, 1), [1]), (die(0, 1), [2]), (die(0, 1), [3]),
                      (die(1, 1), [4]), (die(0, 1), [5]), (die(0, 1), [-28]), (die(1, 1), [-28]))

    def test_for_1_to_1000_coins(self):
        for n in (1, 2, 999, 1000):
            self.assertEqual(self.last(kind(100, 22, 2), die(0, n)), [0])
        for n in (0, 1001, TOP):
            self.assertEqual(self.last(kind(100, 22, 2), die(0, n)), [-22])

    def test_which_refusal(self):
        full = [begin(0), kind(100, 22, 2)] + [die(0, 1)] * 6
        self.answered(full, (die(1, 0), [-2]), (die(1, 1), [-2]), (die(TOP, TOP), [-2]), (die(0, 0), [-22]),
                      (die(0, 1001), [-22]), (die(0, 1), [-28]))

    def test_refused_leaves_all_as_it_was(self):
        before = [begin(0), kind(100, 22, 2), die(0, 3), add(1100, 100)]
        self.left_as_it_was(before, die(1, 5), -2)
        self.left_as_it_was(before, die(0, 0), -22)
        self.left_as_it_was(before + [die(0, 1)] * 5, die(0, 9), -28)

    def test_a_die_is_of_its_kind(self):
        before = [begin(0), kind(10, 24, 2), kind(20, 24, 2), die(1, 3), die(0, 3), add(1000, 0)]
        self.answered(before, (strike(0, 0, [10]), [-13]), (strike(1, 0, [20]), [1]), (strike(0, 1, [10]), [1]),
                      (strike(1, 1, [20]), [-13]))

    def test_made_for_so_many(self):
        before = [begin(0), kind(10, 24, 2), die(0, 1), die(0, 3), add(1000, 0)]
        self.answered(before, (strike(0, 0, [10] * 8), [1]), (strike(0, 1, [10] * 8), [3]),
                      (strike(0, 0, [10] * 8), [0]), (strike(0, 1, [10] * 8), [0]))

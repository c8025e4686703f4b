"""Promise 12 and the changes of promise 1: mi_back, mi_again and mi_state."""

from tests.helper import MintCase, TOP, all_that_tells, run
from tests.helper import begin, kind, die, bring, old, melt, add, fits, need, plan, strike, enough, trial, open_box
from tests.helper import break_box, pay, credit, stock, off, pot, lots, worn, ledger, claims, back, again, state

# 9 coins in stock and one in the box, lots at the places 0 and 1, a die that strikes one more, a pot as fine as kind 0.
BUSY = [begin(10), kind(100, 24, 6), die(0, 1000), die(0, 1), bring(0, 5000, 120000), bring(1, 700, 9000),
        add(20000, 0), strike(0, 0, [100] * 8), strike(0, 0, [100, 101])]
CHANGES_OF_BUSY = len(BUSY) - 1

EACH_CHANGE = [kind(50, 20, 1), die(0, 7), bring(2, 10, 100), old(3, 0, 10), melt(2), melt(3), add(1, 0), add(0, 1),
               strike(0, 0, [100, 101]), strike(0, 1, [100, 101]), strike(0, 0, [1]), open_box(0), break_box(0),
               pay(0, 0, 2), pay(0, 0, 9)]

EACH_REFUSAL = [(begin(501), -22), (begin(TOP), -22), (kind(0, 1, 0), -22), (die(1, 1), -2), (die(0, 0), -22),
                (bring(6, 1, 1), -2), (bring(0, 1, 25), -22), (old(0, 1, 1), -2), (old(0, 0, 0), -22), (melt(0), -22),
                (melt(4), -2), (add(0, 0), -22), (need(1), -2), (plan(0, 2000001), -22), (strike(1, 0, [1]), -2),
                (strike(0, 0, [1], n=0), -22), (trial(1), -2), (open_box(1), -2), (break_box(1), -2), (pay(6, 0, 1),
                                                                                                       -2),
                (pay(0, 0, 0), -22), (pay(0, 0, 10), -12), (pay(2, 0, 1), -20), (credit(6), -2), (stock(1), -2),
                (off(1), -2), (fits(1), -2), (enough(1), -2)]


def adds(changes):
    """So many changes: the pot has 1, then 2, then 3 grains, and so on."""
    return [add(0, 1)] * changes


class EachChange(MintCase):
    def test_one_change_each(self):
        for call in EACH_CHANGE:
            told = run(BUSY + [state(), call, state()])[-3:]
            self.assertGreaterEqual(told[1][0], 0, call)
            self.assertEqual(told[0][4:], [CHANGES_OF_BUSY, 0], call)
            self.assertEqual(told[2][4:], [CHANGES_OF_BUSY + 1, 0], call)

    def test_as_before_and_as_after(self):
        tells = all_that_tells()
        size = len(tells)
        for call in EACH_CHANGE:
            calls = BUSY + tells + [call] + tells + [back()] + tells + [again()] + tells + [back()] + tells
            told = run(calls)[len(BUSY):]
            before, after = told[:size], told[size + 1:2 * size + 1]
            self.assertEqual(told[2 * size + 1], [CHANGES_OF_BUSY], call)
            self.assertEqual(but_counts(told[2 * size + 2:3 * size + 2]), but_counts(before), call)
            self.assertEqual(told[3 * size + 2], [0], call)
            self.assertEqual(told[3 * size + 3:4 * size + 3], after, call)
            self.assertEqual(told[4 * size + 3], [CHANGES_OF_BUSY], call)
            self.assertEqual(but_counts(told[4 * size + 4:]), but_counts(before), call)

    def test_each_changes_what_is_told(self):
        for call in EACH_CHANGE:
            told = run(BUSY + all_that_tells() + [call] + all_that_tells())[len(BUSY):]
            size = len(all_that_tells())
            same = but_counts(told[:size]) == but_counts(told[size + 1:])
            self.assertEqual(same, call == strike(0, 0, [1]), call)

    def test_made_once_more_in_its_place(self):
        for call in EACH_CHANGE:
            told = run(BUSY + [call, back(), call] + all_that_tells())
            wanted = run(BUSY + [call] + all_that_tells())
            self.assertEqual(told[len(BUSY) + 2:], wanted[len(BUSY):], call)

    def test_a_change_on_what_was_taken_back_leaves_the_earlier_alone(self):
        for call in EACH_CHANGE:
            for other in EACH_CHANGE:
                told = run(BUSY + [call, back(), other, back()] + all_that_tells())
                wanted = run(BUSY + [call, back()] + all_that_tells())
                size = len(all_that_tells())
                self.assertEqual(but_counts(told[-size:]), but_counts(wanted[-size:]), (call, other))

    def test_calls_that_are_no_change(self):
        for call in all_that_tells() + [back(), again(), begin(501)]:
            told = run(BUSY + [call, state()])[-1]
            self.assertEqual(sum(told[4:]), CHANGES_OF_BUSY, call)


def but_counts(told):
    """Without what mi_state tells of changes."""
    return told[:5] + [told[5][:4]] + told[6:]


class Back(MintCase):
    def test_none_at_first(self):
        self.answered([begin(0)], (back(), [-2]), (state(), [0, 0, 0, 0, 0, 0]))

    def test_how_many_can_still_be(self):
        self.answered([begin(0)] + adds(3), (back(), [2]), (pot(), [2, 0]), (back(), [1]), (pot(), [1, 0]),
                      (back(), [0]), (pot(), [0, 0]), (back(), [-2]), (pot(), [0, 0]), (back(), [-2]))

    def test_the_last_30(self):
        for changes in (1, 2, 28, 29, 30, 31, 32, 60, 61, 100):
            can_be = min(changes, 30)
            pairs = [(state(), [0, 0, 0, 0, can_be, 0])]
            for left in range(can_be - 1, -1, -1):
                pairs += [(back(), [left]), (pot(), [changes - can_be + left, 0])]
            pairs += [(back(), [-2]), (pot(), [changes - can_be, 0]), (state(), [0, 0, 0, 0, 0, can_be])]
            self.answered([begin(0)] + adds(changes), *pairs)

    def test_what_was_taken_back_counts_no_more(self):
        before = [begin(0)] + adds(35) + [back()] * 10
        self.answered(before, (state(), [0, 0, 0, 0, 20, 10]), (add(0, 1), [26]), (state(), [0, 0, 0, 0, 21, 0]),
                      *[(back(), [left]) for left in range(20, -1, -1)], (back(), [-2]), (pot(), [5, 0]))

    def test_refused_leaves_all_as_it_was(self):
        self.left_as_it_was([begin(0)] + adds(3) + [back()] * 3, back(), -2)
        self.left_as_it_was(BUSY + [back()] * CHANGES_OF_BUSY, back(), -2)
        self.left_as_it_was([begin(0)] + adds(31) + [back()] * 30, back(), -2)

    def test_kinds_and_dies_go_too(self):
        before = [begin(0), kind(100, 24, 6), die(0, 9)]
        self.answered(before, (back(), [1]), (strike(0, 0, [1]), [-2]), (back(), [0]), (fits(0), [-2]),
                      (die(0, 9), [-2]),
                      (again(), [1]), (fits(0), [1]), (again(), [0]), (strike(0, 0, [1]), [0]))

    def test_a_place_is_empty_again(self):
        before = [begin(0), bring(0, 10, 5), bring(1, 20, 6)]
        self.answered(before, (back(), [1]), (lots(), [1, 10, 5] + [0] * 18), (credit(1), [0]),
                      (bring(2, 30, 7), [1, 7]),
                      (lots(), [2, 10, 5, 30, 7] + [0] * 16), (melt(3), [40]), (back(), [2]),
                      (lots(), [2, 10, 5, 30, 7] + [0] * 16), (pot(), [0, 0]))

    def test_each_tenth_is_counted_back(self):
        before = BUSY + [back()]
        self.answered(before, (stock(0), [8, 800, 0, 8]), (strike(0, 0, [100, 102, 103]), [3]), (trial(0), [1, 1, 102]),
                      (stock(0), [10, 1003, 1, 11]))

    def test_coins_stand_in_their_old_order(self):
        before = [begin(0), kind(100, 24, 6), die(0, 9), bring(0, 1000, 24000), add(1000, 0),
                  strike(0, 0, [95, 105, 98])]
        self.answered(before, (pay(0, 0, 2), [19200, 200]), (back(), [5]), (pay(0, 0, 1), [21600, 95]),
                      (pay(0, 0, 1), [19200, 105]), (back(), [6]), (back(), [5]), (pay(0, 0, 3), [16800, 298]))


class Again(MintCase):
    def test_none_at_first(self):
        self.answered([begin(0)], (again(), [-2]))
        self.answered([begin(0)] + adds(3), (again(), [-2]), (pot(), [3, 0]), (state(), [0, 0, 0, 0, 3, 0]))

    def test_the_one_that_was_taken_back_last(self):
        before = [begin(0), add(0, 1), add(0, 2), add(0, 4), add(0, 8)]
        self.answered(before, (back(), [3]), (back(), [2]), (back(), [1]), (pot(), [1, 0]), (again(), [2]),
                      (pot(), [3, 0]),
                      (again(), [1]), (pot(), [7, 0]), (back(), [2]), (pot(), [3, 0]), (again(), [1]), (pot(), [7, 0]),
                      (again(), [0]), (pot(), [15, 0]), (again(), [-2]), (pot(), [15, 0]))

    def test_all_30(self):
        for changes in (29, 30, 31, 45):
            can_be = min(changes, 30)
            pairs = []
            for left in range(can_be - 1, -1, -1):
                pairs += [(again(), [left]), (pot(), [changes - left, 0]),
                          (state(), [0, 0, 0, 0, can_be - left, left])]
            pairs += [(again(), [-2]), (pot(), [changes, 0])]
            pairs += [(back(), [left]) for left in range(can_be - 1, -1, -1)]
            pairs += [(back(), [-2]), (pot(), [changes - can_be, 0])]
            self.answered([begin(0)] + adds(changes) + [back()] * can_be, *pairs)

    def test_some_done_again_then_another_change(self):
        for taken, done in ((1, 0), (5, 0), (5, 2), (5, 4), (30, 0), (30, 29), (5, 5)):
            left = taken - done
            self.answered([begin(0)] + adds(40) + [back()] * taken + [again()] * done,
                          (state(), [0, 0, 0, 0, 30 - left, left]), (add(0, 1000), [40 - left + 1000]),
                          (state(), [0, 0, 0, 0, min(30, 31 - left), 0]), (again(), [-2]), (pot(), [1040 - left, 0]),
                          (back(), [min(29, 30 - left)]), (pot(), [40 - left, 0]), (again(), [0]),
                          (pot(), [1040 - left, 0]), (again(), [-2]))

    def test_each_change_ends_it(self):
        for call in EACH_CHANGE:
            told = run(BUSY + [add(1, 0), back(), call, again(), state()])
            self.assertGreaterEqual(told[-3][0], 0, call)
            self.assertEqual(told[-2], [-2], call)
            self.assertEqual(told[-1][4:], [CHANGES_OF_BUSY + 1, 0], call)

    def test_a_strike_that_strikes_nothing_ends_it(self):
        self.answered(BUSY + [add(1, 0), back()], (strike(0, 0, [1, 2, 3]), [0]), (again(), [-2]),
                      (back(), [CHANGES_OF_BUSY]), (again(), [0]))

    def test_a_refused_call_does_not(self):
        for call, number in EACH_REFUSAL:
            self.answered(BUSY + [add(1, 0), add(1, 0), back(), back()], (call, [number]), (again(), [1]),
                          (call, [number]), (again(), [0]), (pot(), [18999 + 2, 24 * 19001]),
                          (back(), [CHANGES_OF_BUSY + 1]))

    def test_a_call_that_only_tells_does_not(self):
        for call in all_that_tells():
            told = run(BUSY + [add(1, 0), back(), call, again(), again()])
            self.assertEqual(told[-2:], [[0], [-2]], call)

    def test_refused_leaves_all_as_it_was(self):
        self.left_as_it_was(BUSY, again(), -2)
        self.left_as_it_was([begin(0)] + adds(31), again(), -2)
        self.left_as_it_was(BUSY + [back(), back(), again(), again()], again(), -2)


class BegunAgain(MintCase):
    def test_nothing_can_be_taken_back_or_done_again(self):
        self.answered(BUSY + [back(), back()], (begin(3), [0]), (back(), [-2]), (again(), [-2]),
                      (state(), [0, 0, 3, 0, 0, 0]), (add(0, 1), [1]), (state(), [0, 0, 3, 0, 1, 0]), (back(), [0]),
                      (back(), [-2]), (state(), [0, 0, 3, 0, 0, 1]))

    def test_all_that_tells_is_as_at_first(self):
        told = run(BUSY + [back(), begin(3)] + all_that_tells())
        self.assertEqual(told[len(BUSY) + 1:], run([begin(3)] + all_that_tells()))

    def test_refused_all_stays(self):
        for taken in (0, 1, 4, CHANGES_OF_BUSY):
            self.left_as_it_was(BUSY + [back()] * taken, begin(501), -22)
            self.left_as_it_was(BUSY + [back()] * taken, begin(TOP), -22)


class State(MintCase):
    def test_at_first(self):
        for keeps in (0, 1, 500):
            self.answered([begin(keeps)], (state(), [0, 0, keeps, 0, 0, 0]))

    def test_each_of_its_numbers(self):
        self.answered([begin(17), kind(9, 9, 1), kind(8, 8, 0), kind(7, 7, 0)], (state(), [3, 0, 17, 0, 3, 0]),
                      (die(2, 1), [0]), (die(1, 1), [1]), (state(), [3, 2, 17, 0, 5, 0]), (bring(0, 1, 0), [0, 0]),
                      (old(0, 0, 9), [1, 79]), (bring(0, 5, 5), [2, 4]), (bring(0, 5, 5), [3, 4]),
                      (state(), [3, 2, 17, 4, 9, 0]), (melt(6), [14]), (state(), [3, 2, 17, 2, 10, 0]), (back(), [9]),
                      (back(), [8]), (state(), [3, 2, 17, 3, 8, 2]))

    def test_all_full(self):
        before = [begin(0)] + [kind(1, 1, 0)] * 4 + [die(0, 1)] * 6 + [bring(0, 1, 1)] * 10 + adds(11)
        self.answered(before, (state(), [4, 6, 0, 10, 30, 0]), (kind(1, 1, 0), [-28]), (die(0, 1), [-28]),
                      (bring(0, 1, 1), [-28]), (state(), [4, 6, 0, 10, 30, 0]))

    def test_worn_dies_count(self):
        before = [begin(0), kind(1, 24, 0), die(0, 1), add(9, 0), strike(0, 0, [1])]
        self.answered(before, (worn(), [1, 1]), (state(), [1, 1, 0, 0, 4, 0]))

    def test_telling_changes_nothing(self):
        self.answered(BUSY + [back()], (state(), [1, 2, 10, 2, 7, 1]), (ledger(), [25700, 609000, 129000, 480000, 0]),
                      (claims(), [127710, 1290, 0]), (state(), [1, 2, 10, 2, 7, 1]), (again(), [0]),
                      (state(), [1, 2, 10, 2, 8, 0]))

"""Promise 11: mi_ledger and mi_claims; each carat is accounted for, and claims hold."""

from tests.helper import MintCase
from tests.helper import begin, kind, die, bring, old, melt, add, strike, open_box, break_box, pay
from tests.helper import stock, pot, ledger, claims, back, again


class Step:
    """A call, what it answers, and what mi_ledger and mi_claims answer behind it."""

    def __init__(self, call, told, held, claimed):
        self.call = call
        self.told = told
        self.held = held
        self.claimed = claimed


# Worked by hand: the mint keeps 7 thousandths, a coin of kind 0 is to have 100 grains, 20 fine.
STEPS = [
    Step(begin(7), [0], [0, 0, 0, 0, 0], [0, 0, 0]),
    Step(kind(100, 20, 5), [0], [0, 0, 0, 0, 0], [0, 0, 0]),
    Step(die(0, 50), [0], [0, 0, 0, 0, 0], [0, 0, 0]),
    Step(bring(0, 1000, 23000), [0, 22839], [1000, 23000, 23000, 0, 0], [22839, 161, 0]),
    Step(bring(1, 333, 3001), [1, 2979], [1333, 26001, 26001, 0, 0], [25818, 183, 0]),
    Step(old(2, 0, 500), [2, 9930], [1833, 36001, 36001, 0, 0], [35748, 253, 0]),
    Step(melt(5), [1500], [1833, 36001, 36001, 0, 0], [35748, 253, 0]),
    Step(add(0, 150), [1650], [1983, 36001, 36001, 0, 0], [35748, 253, 0]),
    Step(add(20, 4), [1674], [2007, 36481, 36001, 480, 0], [35748, 253, 0]),
    Step(strike(0, 0, [104, 104] + [100] * 6), [8], [2007, 36481, 36001, 480, 0], [35748, 253, 0]),
    Step(strike(0, 0, [100, 98]), [2], [2007, 36481, 36001, 480, 0], [35748, 253, 0]),
    Step(pay(0, 0, 2), [18839, 208], [1799, 32321, 36001, 480, 4160], [31748, 253, 4000]),
    Step(open_box(0), [1], [1799, 32321, 36001, 480, 4160], [31748, 253, 4000]),
    Step(pay(0, 0, 8), [2839, 798], [1001, 16361, 36001, 480, 20120], [15748, 253, 20000]),
    Step(add(500, 100), [1268], [1601, 28361, 36001, 12480, 20120], [15748, 253, 20000]),
    Step(strike(0, 0, [100] * 8), [8], [1601, 28361, 36001, 12480, 20120], [15748, 253, 20000]),
    Step(strike(0, 0, [100, 105]), [2], [1601, 28361, 36001, 12480, 20120], [15748, 253, 20000]),
    Step(break_box(0), [1], [1601, 28361, 36001, 12480, 20120], [15748, 253, 20000]),
    Step(pay(2, 0, 4), [1930, 400], [1201, 20361, 36001, 12480, 28120], [7748, 253, 28000]),
    Step(strike(0, 0, [94]), [0], [1201, 20361, 36001, 12480, 28120], [7748, 253, 28000]),
]


class LedgerAndClaims(MintCase):
    def test_step_by_step(self):
        pairs = []
        for step in STEPS:
            pairs += [(step.call, step.told), (ledger(), step.held), (claims(), step.claimed)]
        self.answered([], *pairs)

    def test_all_taken_back_and_done_again(self):
        pairs = []
        for at in range(len(STEPS) - 2, -1, -1):
            pairs += [(back(), [at]), (ledger(), STEPS[at].held), (claims(), STEPS[at].claimed)]
        for at in range(1, len(STEPS)):
            pairs += [(again(), [len(STEPS) - 1 - at]), (ledger(), STEPS[at].held), (claims(), STEPS[at].claimed)]
        self.answered([step.call for step in STEPS], *pairs)

    def test_each_carat_and_claims_in_these_steps(self):
        for step in STEPS:
            self.assertEqual(step.held[1] + step.held[4], step.held[2] + step.held[3])
            self.assertEqual(sum(step.claimed), step.held[2])

    def test_each_grain_in_these_steps(self):
        before = [step.call for step in STEPS]
        brought, added, paid = 1000 + 333 + 500, 150 + 24 + 600, 208 + 798 + 400
        self.answered(before, (ledger(), [brought + added - paid, 20361, 36001, 12480, 28120]),
                      (stock(0), [5, 500, 0, 20]), (pot(), [368, 7360]))

    def test_at_the_beginning(self):
        self.answered([begin(0)], (ledger(), [0, 0, 0, 0, 0]), (claims(), [0, 0, 0]))

    def test_begun_again(self):
        before = [step.call for step in STEPS]
        self.answered(before, (begin(3), [0]), (ledger(), [0, 0, 0, 0, 0]), (claims(), [0, 0, 0]))

    def test_refused_calls_count_nothing(self):
        before = [step.call for step in STEPS]
        refused = [begin(501), kind(0, 1, 1), die(0, 0), bring(0, 0, 0), bring(0, 1, 25), old(0, 0, 100001), melt(4),
                   add(100001, 0), strike(0, 0, [100], n=0), open_box(0), break_box(0), pay(0, 0, 0), pay(0, 0, 6),
                   pay(0, 0, 3), again()]
        pairs = []
        told = [-22, -22, -22, -22, -22, -22, -2, -22, -22, -6, -6, -22, -12, -20, -2]
        for call, number in zip(refused, told, strict=True):
            pairs += [(call, [number]), (ledger(), STEPS[-1].held), (claims(), STEPS[-1].claimed)]
        self.answered(before, *pairs)

    def test_coins_of_each_kind_have_its_fineness(self):
        before = [begin(0), kind(10, 24, 1), kind(20, 6, 2), die(0, 99), die(1, 99), add(100, 0),
                  strike(0, 0, [11, 9, 10]), bring(0, 210, 0), melt(1), strike(1, 1, [18] * 8), strike(1, 1, [22] * 2)]
        self.answered(before, (ledger(), [310, 2400, 0, 2400, 0]), (stock(0), [3, 30, 0, 3]),
                      (stock(1), [9, 166, 1, 10]),
                      (pot(), [92, 552]), (claims(), [0, 0, 0]))

    def test_paid_by_weight_and_lessened_by_what_coins_are_to_have(self):
        before = [begin(0), kind(100, 24, 50), die(0, 9), bring(3, 300, 7200), add(1000, 0)]
        self.answered(before + [strike(0, 0, [150, 150])], (pay(3, 0, 2), [2400, 300]),
                      (ledger(), [1000, 24000, 7200, 24000, 7200]), (claims(), [2400, 0, 4800]))
        self.answered(before + [strike(0, 0, [50, 50])], (pay(3, 0, 2), [2400, 100]),
                      (ledger(), [1200, 28800, 7200, 24000, 2400]), (claims(), [2400, 0, 4800]))

    def test_all_people_together(self):
        before = [begin(500)] + [bring(p, 10, 2 * p + 1) for p in range(6)]
        self.answered(before, (claims(), [15, 21, 0]), (ledger(), [60, 36, 36, 0, 0]))

    def test_what_is_kept_is_rounded_up_for_each_lot(self):
        self.answered([begin(1)] + [bring(0, 1, 1)] * 10, (claims(), [0, 10, 0]), (ledger(), [10, 10, 10, 0, 0]))
        self.answered([begin(0)] + [bring(0, 1, 1)] * 10, (claims(), [10, 0, 0]))

    def test_copper_added_has_no_carats(self):
        self.answered([begin(0), add(0, 100000)], (ledger(), [100000, 0, 0, 0, 0]), (claims(), [0, 0, 0]))

    def test_much(self):
        before = [begin(0)] + ([bring(0, 100000, 2400000)] * 10 + [melt(1023)]) * 2 + [bring(0, 100000, 2400000)] * 10
        self.answered(before, (ledger(), [3000000, 72000000, 72000000, 0, 0]), (claims(), [72000000, 0, 0]))

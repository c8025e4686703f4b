"""The calls on blanks and boxes: mi_strike, mi_enough, mi_trial, mi_open, mi_break."""

from wholemint.refusals import NOT_THERE, BOX_EMPTY, OTHER_KIND, NOT_AS_TOLD, NO_ROOM, NOT_TO_BE_DONE, NOT_AS_FINE
from wholemint.state import MOST_IN_POT

MOST_BLANKS = 8
MOST_COINS_OF_KIND = 60
EACH_TENTH = 10


def can_be_struck(pot, kind, die, weight):
    if abs(weight - kind.grains) > kind.remedy:
        return False
    if die.left == 0 or pot.grains < weight:
        return False
    return len(kind.stock) + len(kind.box) < MOST_COINS_OF_KIND


def strike_blank(mint, kind, die, weight):
    mint.pot = mint.pot.less(kind.metal_of(weight))
    die.left = die.left - 1
    kind.struck = kind.struck + 1
    if kind.struck % EACH_TENTH == 0:
        kind.box.append(weight)
    else:
        kind.stock.append(weight)


def strike(mint, k, number, n, weights):
    if not mint.has_kind(k) or not mint.has_die(number):
        return [NOT_THERE]
    if n < 1 or n > MOST_BLANKS:
        return [NOT_AS_TOLD]
    kind = mint.kinds[k]
    die = mint.dies[number]
    if die.kind != k:
        return [OTHER_KIND]
    if not mint.pot.is_as_fine_as(kind.fine):
        return [NOT_AS_FINE]
    struck = 0
    for weight in weights[:n]:
        if can_be_struck(mint.pot, kind, die, weight):
            strike_blank(mint, kind, die, weight)
            struck = struck + 1
    return [struck]


def tell_enough(mint, k):
    if not mint.has_kind(k):
        return [NOT_THERE]
    return [mint.pot.grains // mint.kinds[k].grains]


def box_passes(kind):
    coins = len(kind.box)
    off = abs(sum(kind.box) - coins * kind.grains)
    # Both sides twice, so that half of an odd number is not rounded.
    return 2 * off <= coins * kind.remedy


def try_box(mint, k):
    if not mint.has_kind(k):
        return [NOT_THERE]
    kind = mint.kinds[k]
    if len(kind.box) == 0:
        return [BOX_EMPTY]
    return [1 if box_passes(kind) else 0, len(kind.box), sum(kind.box)]


def put_box_in_stock(mint, k):
    if not mint.has_kind(k):
        return [NOT_THERE]
    kind = mint.kinds[k]
    if len(kind.box) == 0:
        return [BOX_EMPTY]
    if not box_passes(kind):
        return [NOT_TO_BE_DONE]
    coins = len(kind.box)
    kind.stock.extend(kind.box)
    kind.box = []
    return [coins]


def put_box_in_pot(mint, k):
    if not mint.has_kind(k):
        return [NOT_THERE]
    kind = mint.kinds[k]
    if len(kind.box) == 0:
        return [BOX_EMPTY]
    pot = mint.pot.together_with(kind.metal_of(sum(kind.box)))
    if pot.grains > MOST_IN_POT:
        return [NO_ROOM]
    coins = len(kind.box)
    mint.pot = pot
    kind.box = []
    return [coins]

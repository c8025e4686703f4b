"""The calls on the pot: mi_melt, mi_add, mi_fits, mi_need, mi_plan."""

from wholemint.needs import gold_by_rest, find_need, find_plan
from wholemint.refusals import NOT_THERE, NOT_AS_TOLD, NO_ROOM, NOT_TO_BE_DONE
from wholemint.state import CARATS_OF_GOLD, PLACES, MOST_IN_POT, Metal

MOST_BITS = 1023
MOST_ADDED = 100000


def places_of(bits):
    return [place for place in range(PLACES) if bits & (1 << place) != 0]


def melt(mint, bits):
    if bits == 0 or bits > MOST_BITS:
        return [NOT_AS_TOLD]
    places = places_of(bits)
    pot = mint.pot
    for place in places:
        if mint.lots[place].is_none():
            return [NOT_THERE]
        pot = pot.together_with(mint.lots[place])
    if pot.grains > MOST_IN_POT:
        return [NO_ROOM]
    mint.pot = pot
    for place in places:
        mint.lots[place] = Metal(0, 0)
    return [pot.grains]


def add_metal(mint, gold, copper):
    if gold == 0 and copper == 0:
        return [NOT_AS_TOLD]
    if gold > MOST_ADDED or copper > MOST_ADDED:
        return [NOT_AS_TOLD]
    metal = Metal(gold + copper, CARATS_OF_GOLD * gold)
    pot = mint.pot.together_with(metal)
    if pot.grains > MOST_IN_POT:
        return [NO_ROOM]
    mint.pot = pot
    mint.added = mint.added + metal.carats
    return [pot.grains]


def tell_fits(mint, k):
    if not mint.has_kind(k):
        return [NOT_THERE]
    return [1 if mint.pot.is_as_fine_as(mint.kinds[k].fine) else 0]


def tell_need(mint, k):
    if not mint.has_kind(k):
        return [NOT_THERE]
    fine = mint.kinds[k].fine
    need = find_need(mint.pot, fine, gold_by_rest(fine))
    if need is None:
        return [NOT_TO_BE_DONE]
    return [need.together(), need.gold, need.copper]


def tell_plan(mint, k, least):
    if not mint.has_kind(k):
        return [NOT_THERE]
    if least > MOST_IN_POT:
        return [NOT_AS_TOLD]
    plan = find_plan(mint.pot, mint.lots, mint.kinds[k].fine, least)
    if plan is None:
        return [NOT_TO_BE_DONE]
    return [plan.added, plan.choice.bits]

"""The calls that make kinds and dies and bring metal in: mi_kind, mi_die, mi_bring, mi_old."""

from wholemint.refusals import NOT_THERE, NOT_AS_TOLD, NO_ROOM
from wholemint.state import CARATS_OF_GOLD, PLACES, Metal, Kind, Die

MOST_KINDS = 4
MOST_GRAINS_OF_COIN = 10000
MOST_REMEDY = 100
MOST_DIES = 6
MOST_COINS_OF_DIE = 1000
MOST_GRAINS_OF_LOT = 100000


def is_kind_as_told(grains, fine, remedy):
    if grains < 1 or grains > MOST_GRAINS_OF_COIN:
        return False
    if fine < 1 or fine > CARATS_OF_GOLD:
        return False
    return remedy <= MOST_REMEDY and remedy < grains


def make_kind(mint, grains, fine, remedy):
    if not is_kind_as_told(grains, fine, remedy):
        return [NOT_AS_TOLD]
    if len(mint.kinds) == MOST_KINDS:
        return [NO_ROOM]
    mint.kinds.append(Kind(grains, fine, remedy))
    return [len(mint.kinds) - 1]


def make_die(mint, k, n):
    if not mint.has_kind(k):
        return [NOT_THERE]
    if n < 1 or n > MOST_COINS_OF_DIE:
        return [NOT_AS_TOLD]
    if len(mint.dies) == MOST_DIES:
        return [NO_ROOM]
    mint.dies.append(Die(k, n))
    return [len(mint.dies) - 1]


def is_weight_of_lot(grains):
    return grains >= 1 and grains <= MOST_GRAINS_OF_LOT


def bring(mint, p, grains, carats):
    if not mint.has_person(p):
        return [NOT_THERE]
    if not is_weight_of_lot(grains) or carats > CARATS_OF_GOLD * grains:
        return [NOT_AS_TOLD]
    return take_in(mint, p, Metal(grains, carats))


def bring_old_coin(mint, p, k, grains):
    if not mint.has_person(p) or not mint.has_kind(k):
        return [NOT_THERE]
    if not is_weight_of_lot(grains):
        return [NOT_AS_TOLD]
    return take_in(mint, p, mint.kinds[k].metal_of(grains))


def first_empty_place(lots):
    place = 0
    while place < PLACES and not lots[place].is_none():
        place = place + 1
    return place


def take_in(mint, p, metal):
    place = first_empty_place(mint.lots)
    if place == PLACES:
        return [NO_ROOM]
    kept = thousandths_rounded_up(metal.carats, mint.keeps)
    grows = metal.carats - kept
    mint.lots[place] = metal
    mint.brought = mint.brought + metal.carats
    mint.kept = mint.kept + kept
    mint.credit[p] = mint.credit[p] + grows
    return [place, grows]


def thousandths_rounded_up(carats, thousandths):
    return (carats * thousandths + 999) // 1000

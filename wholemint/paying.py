"""The calls on credits and on coins that are there: mi_pay, mi_credit, mi_stock, mi_off."""

from wholemint.refusals import NOT_THERE, TOO_FEW_COINS, TOO_LITTLE_CREDIT, NOT_AS_TOLD


def pay(mint, p, k, n):
    if not mint.has_person(p) or not mint.has_kind(k):
        return [NOT_THERE]
    if n == 0:
        return [NOT_AS_TOLD]
    kind = mint.kinds[k]
    if n > len(kind.stock):
        return [TOO_FEW_COINS]
    # The credit pays what the coins are to have; what they weigh is what leaves the mint.
    price = kind.metal_of(n * kind.grains).carats
    if price > mint.credit[p]:
        return [TOO_LITTLE_CREDIT]
    metal = kind.metal_of(sum(kind.stock[:n]))
    kind.stock = kind.stock[n:]
    mint.paid = mint.paid + metal.carats
    mint.credit[p] = mint.credit[p] - price
    mint.lessened = mint.lessened + price
    return [mint.credit[p], metal.grains]


def tell_credit(mint, p):
    if not mint.has_person(p):
        return [NOT_THERE]
    return [mint.credit[p]]


def tell_stock(mint, k):
    if not mint.has_kind(k):
        return [NOT_THERE]
    kind = mint.kinds[k]
    return [len(kind.stock), sum(kind.stock), len(kind.box), kind.struck]


def tell_off(mint, k):
    if not mint.has_kind(k):
        return [NOT_THERE]
    kind = mint.kinds[k]
    coins = len(kind.stock) + len(kind.box)
    above = sum(kind.stock) + sum(kind.box) - coins * kind.grains
    return [abs(above), 1 if above > 0 else 0]

"""The calls that tell of the mint as a whole: mi_pot, mi_lots, mi_worn, mi_ledger, mi_claims."""


def tell_pot(mint):
    return [mint.pot.grains, mint.pot.carats]


def tell_lots(mint):
    told = [mint.count_lots()]
    for lot in mint.lots:
        told.extend([lot.grains, lot.carats])
    return told


def tell_worn(mint):
    worn = 0
    bits = 0
    for number in range(len(mint.dies)):
        if mint.dies[number].left == 0:
            worn = worn + 1
            bits = bits + (1 << number)
    return [worn, bits]


def find_held(mint):
    """The metal of lots, pot, stock and boxes, together."""
    held = mint.pot
    for lot in mint.lots:
        held = held.together_with(lot)
    for kind in mint.kinds:
        held = held.together_with(kind.metal_of(sum(kind.stock) + sum(kind.box)))
    return held


def tell_ledger(mint):
    held = find_held(mint)
    return [held.grains, held.carats, mint.brought, mint.added, mint.paid]


def tell_claims(mint):
    return [sum(mint.credit), mint.kept, mint.lessened]

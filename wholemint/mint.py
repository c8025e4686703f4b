"""The mint's calls, one behind another in one list, and what they answer, in one list."""

from wholemint.bringing import begin, make_kind, make_die, bring, bring_old_coin
from wholemint.melting import melt, add_metal, tell_fits, tell_need, tell_plan
from wholemint.state import Mint
from wholemint.striking import strike, tell_enough, try_box, put_box_in_stock

MI_BEGIN = 0
MI_KIND = 1
MI_DIE = 2
MI_BRING = 3
MI_OLD = 4
MI_MELT = 5
MI_ADD = 6
MI_FITS = 7
MI_NEED = 8
MI_PLAN = 9
MI_STRIKE = 10
MI_ENOUGH = 11
MI_TRIAL = 12
MI_OPEN = 13

# How many numbers stand behind each call's own: of mi_strike also the count of its row, and the row of 8.
NUMBERS_BEHIND = (1, 3, 2, 3, 3, 1, 2, 1, 1, 2, 12, 1, 1, 1)


def answers(calls):
    mint = Mint()
    told = []
    at = 0
    while at < len(calls):
        call = calls[at]
        end = at + 1 + NUMBERS_BEHIND[call]
        answer = answer_call(mint, call, calls[at + 1:end])
        told.append(len(answer))
        told.extend(answer)
        at = end
    return told


def answer_call(mint, call, given):
    if call <= MI_OLD:
        return answer_bringing(mint, call, given)
    if call <= MI_PLAN:
        return answer_melting(mint, call, given)
    return answer_striking(mint, call, given)


def answer_bringing(mint, call, given):
    if call == MI_BEGIN:
        return begin(mint, given[0])
    if call == MI_KIND:
        return make_kind(mint, given[0], given[1], given[2])
    if call == MI_DIE:
        return make_die(mint, given[0], given[1])
    if call == MI_BRING:
        return bring(mint, given[0], given[1], given[2])
    return bring_old_coin(mint, given[0], given[1], given[2])


def answer_melting(mint, call, given):
    if call == MI_MELT:
        return melt(mint, given[0])
    if call == MI_ADD:
        return add_metal(mint, given[0], given[1])
    if call == MI_FITS:
        return tell_fits(mint, given[0])
    if call == MI_NEED:
        return tell_need(mint, given[0])
    return tell_plan(mint, given[0], given[1])


def answer_striking(mint, call, given):
    if call == MI_STRIKE:
        return strike(mint, given[0], given[1], given[2], given[4:])
    if call == MI_ENOUGH:
        return tell_enough(mint, given[0])
    if call == MI_TRIAL:
        return try_box(mint, given[0])
    return put_box_in_stock(mint, given[0])

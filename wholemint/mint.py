"""The mint's calls, one behind another in one list, and what they answer, in one list."""

from wholemint.bringing import make_kind, make_die, bring, bring_old_coin
from wholemint.changes import Book, begin, take_back, do_again, tell_state
from wholemint.melting import melt, add_metal, tell_fits, tell_need, tell_plan
from wholemint.paying import pay, tell_credit, tell_stock, tell_off
from wholemint.striking import strike, tell_enough, try_box, put_box_in_stock, put_box_in_pot
from wholemint.telling import tell_pot, tell_lots, tell_worn, tell_ledger, tell_claims

MI_BEGIN = 0
MI_KIND = 1
MI_DIE = 2
MI_BRING = 3
MI_OLD = 4
MI_MELT = 5
MI_ADD = 6
MI_FITS = 7
MI_NEED = 8
MI_PLAN = 9
MI_STRIKE = 10
MI_ENOUGH = 11
MI_TRIAL = 12
MI_OPEN = 13
MI_BREAK = 14
MI_PAY = 15
MI_CREDIT = 16
MI_STOCK = 17
MI_OFF = 18
MI_POT = 19
MI_LOTS = 20
MI_WORN = 21
MI_LEDGER = 22
MI_CLAIMS = 23
MI_BACK = 24
MI_AGAIN = 25
MI_STATE = 26

# How many numbers stand behind each call's own: of mi_strike also the count of its row, and the row of 8.
NUMBERS_BEHIND = (1, 3, 2, 3, 3, 1, 2, 1, 1, 2, 12, 1, 1, 1, 1, 3, 1, 1, 1, 0, 0, 0, 0, 0, 0, 0, 0)

# The calls that are changes: mi_kind, mi_die, mi_bring, mi_old, mi_melt, mi_add, mi_strike, mi_open, mi_break, mi_pay.
CHANGES = (1, 2, 3, 4, 5, 6, 10, 13, 14, 15)


def answers(calls):
    book = Book()
    told = []
    at = 0
    while at < len(calls):
        call = calls[at]
        end = at + 1 + NUMBERS_BEHIND[call]
        answer = answer_call(book, call, calls[at + 1:end])
        told.append(len(answer))
        told.extend(answer)
        at = end
    return told


def answer_call(book, call, given):
    if call == MI_BEGIN:
        return begin(book, given[0])
    if call == MI_BACK:
        return take_back(book)
    if call == MI_AGAIN:
        return do_again(book)
    if call == MI_STATE:
        return tell_state(book)
    if call in CHANGES:
        return make_change(book, call, given)
    return answer_of_mint(book.mint, call, given)


def make_change(book, call, given):
    # The change is made to another mint, so that the one that is there stays to come back to.
    mint = book.mint.another_alike()
    answer = answer_of_mint(mint, call, given)
    if answer[0] >= 0:
        book.turn_to(mint)
    return answer


def answer_of_mint(mint, call, given):
    if call <= MI_OLD:
        return answer_bringing(mint, call, given)
    if call <= MI_PLAN:
        return answer_melting(mint, call, given)
    if call <= MI_BREAK:
        return answer_striking(mint, call, given)
    if call <= MI_OFF:
        return answer_paying(mint, call, given)
    return answer_telling(mint, call)


def answer_bringing(mint, call, given):
    if call == MI_KIND:
        return make_kind(mint, given[0], given[1], given[2])
    if call == MI_DIE:
        return make_die(mint, given[0], given[1])
    if call == MI_BRING:
        return bring(mint, given[0], given[1], given[2])
    return bring_old_coin(mint, given[0], given[1], given[2])


def answer_melting(mint, call, given):
    if call == MI_MELT:
        return melt(mint, given[0])
    if call == MI_ADD:
        return add_metal(mint, given[0], given[1])
    if call == MI_FITS:
        return tell_fits(mint, given[0])
    if call == MI_NEED:
        return tell_need(mint, given[0])
    return tell_plan(mint, given[0], given[1])


def answer_striking(mint, call, given):
    if call == MI_STRIKE:
        return strike(mint, given[0], given[1], given[2], given[4:])
    if call == MI_ENOUGH:
        return tell_enough(mint, given[0])
    if call == MI_TRIAL:
        return try_box(mint, given[0])
    if call == MI_OPEN:
        return put_box_in_stock(mint, given[0])
    return put_box_in_pot(mint, given[0])


def answer_paying(mint, call, given):
    if call == MI_PAY:
        return pay(mint, given[0], given[1], given[2])
    if call == MI_CREDIT:
        return tell_credit(mint, given[0])
    if call == MI_STOCK:
        return tell_stock(mint, given[0])
    return tell_off(mint, given[0])


def answer_telling(mint, call):
    if call == MI_POT:
        return tell_pot(mint)
    if call == MI_LOTS:
        return tell_lots(mint)
    if call == MI_WORN:
        return tell_worn(mint)
    if call == MI_LEDGER:
        return tell_ledger(mint)
    return tell_claims(mint)

"""A mint and its changes, and the calls on them: mi_begin, mi_back, mi_again, mi_state."""

from wholemint.refusals import NOT_THERE, NOT_AS_TOLD
from wholemint.state import Mint

MOST_KEPT = 500
MOST_CHANGES = 30


class Book:
    """The mint as it is, and as it was ahead of and behind changes: a mint in here is never changed itself."""

    def __init__(self):
        self.begin_anew(0)

    def begin_anew(self, keeps):
        self.mint = Mint(keeps)
        self.before = []
        self.behind = []

    def turn_to(self, mint):
        self.before = (self.before + [self.mint])[-MOST_CHANGES:]
        self.behind = []
        self.mint = mint


def begin(book, keeps):
    if keeps > MOST_KEPT:
        return [NOT_AS_TOLD]
    book.begin_anew(keeps)
    return [0]


def take_back(book):
    if len(book.before) == 0:
        return [NOT_THERE]
    book.behind.append(book.mint)
    book.mint = book.before.pop()
    return [len(book.before)]


def do_again(book):
    if len(book.behind) == 0:
        return [NOT_THERE]
    book.before.append(book.mint)
    book.mint = book.behind.pop()
    return [len(book.behind)]


def tell_state(book):
    mint = book.mint
    return [len(mint.kinds), len(mint.dies), mint.keeps, mint.count_lots(), len(book.before), len(book.behind)]

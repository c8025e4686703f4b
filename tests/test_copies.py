"""Another mint that is alike: nothing is left out of it, and nothing in it is shared that a change would touch."""

import unittest

from tests.sessions import Session
from wholemint.changes import Book
from wholemint.mint import answer_call
from wholemint.state import Metal


def spread(thing):
    """All that an object has, as plain values, however deep."""
    if isinstance(thing, list):
        return [spread(part) for part in thing]
    if hasattr(thing, "__dict__"):
        return {name: spread(part) for name, part in thing.__dict__.items()}
    return thing


def changeable(thing):
    """Each list and object within, but metal, which is never changed."""
    if isinstance(thing, Metal) or not (isinstance(thing, list) or hasattr(thing, "__dict__")):
        return []
    parts = thing if isinstance(thing, list) else thing.__dict__.values()
    return [thing] + [found for part in parts for found in changeable(part)]


class Copies(unittest.TestCase):
    def test_alike_and_apart(self):
        for seed in range(400, 410):
            book = Book()
            for call in Session(seed, 150).calls:
                answer_call(book, call[0], call[1:])
                other = book.mint.another_alike()
                self.assertEqual(spread(other), spread(book.mint))
                mine = {id(part) for part in changeable(book.mint)}
                self.assertEqual([part for part in changeable(other) if id(part) in mine], [])

    def test_a_mint_that_was_left_is_never_changed(self):
        for seed in range(410, 414):
            book = Book()
            seen = []
            for call in Session(seed, 150).calls:
                answer_call(book, call[0], call[1:])
                seen.append((book.mint, spread(book.mint)))
            for mint, was in seen:
                self.assertEqual(spread(mint), was)

    def test_no_more_mints_are_kept_than_can_be_come_back_to(self):
        book = Book()
        for call in [[0, 0]] + [[6, 0, 1]] * 100:
            answer_call(book, call[0], call[1:])
            self.assertLessEqual(len(book.before), 30)

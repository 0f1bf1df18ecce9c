"""The checker of papers of the price of few others."""

from mendfew.bookforms import is_lot_of, is_word_of
from mendfew.paperforms import is_form, need
from mendfew.price import bound_places
from mendfew.usable import want, want_book


def lets_lot(book, thing):
    """The price of the book, by a paper of it; raises InvalidPaper for any other value."""
    want_book(book, "book")
    bound = bound_places(book)
    want(bound is not None, "book")
    need(is_form(thing, "price", 3), "shape", -1)
    _, lot, signs = thing
    need(isinstance(lot, tuple) and isinstance(signs, tuple), "shape", -1)
    need(is_lot_of(book, lot), "lot", -1)
    need(len(lot) >= bound, "few", -1)
    need(is_word_of(book, signs) and any(signs), "signs", -1)
    for place in lot:
        need(signs[place] == 0, "there", place)
    return book[1] - bound

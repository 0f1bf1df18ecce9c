"""The checker of papers of how far words of a book lie apart."""

from mendfew.apartness import differing_places
from mendfew.bookforms import is_lot_of, is_word_of
from mendfew.lots import all_places, first_meeting
from mendfew.paperforms import is_form, need
from mendfew.rows import bound_rows, rank_on
from mendfew.usable import want_book


def lets_apart(book, thing):
    """The apart of the book, by a paper of it; raises InvalidPaper for any other value."""
    want_book(book, "book")
    prime, size, sums = book
    words = bound_rows(prime, size, sums)
    if is_form(thing, "alone", 1):
        need(len(words) == 0, "more", -1)
        return None
    need(is_form(thing, "pair", 4), "shape", -1)
    _, signs, late, lots = thing
    need(is_word_of(book, signs), "first", -1)
    need(is_word_of(book, late), "second", -1)
    need(signs != late, "equal", -1)
    need(isinstance(lots, tuple), "lots", -1)
    for at, lot in enumerate(lots):
        need(is_lot_of(book, lot), "lot", at)
        need(rank_on(prime, words, lot) == len(words), "tells", at)
    apart = len(differing_places(signs, late))
    missing = first_meeting(all_places(size), apart - 1, lots)
    need(missing is None, "open", missing)
    return apart

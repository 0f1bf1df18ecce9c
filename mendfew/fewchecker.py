"""The checker of papers of how few other places tell a place."""

from mendfew.bookforms import is_sum_of, is_word_of
from mendfew.lots import first_meeting, other_places
from mendfew.paperforms import is_form, need
from mendfew.rows import places_of
from mendfew.usable import want_book, want_place


def lets_few(book, place, thing):
    """The fewest of the place, by a paper of it; raises InvalidPaper for any other value."""
    want_book(book, "book")
    want_place(book, place)
    if is_form(thing, "none", 2):
        check_alone(book, place, thing[1])
        return None
    need(is_form(thing, "few", 3), "shape", -1)
    _, numbers, words = thing
    need(is_sum_of(book, numbers) and numbers[place] != 0, "numbers", -1)
    need(isinstance(words, tuple), "words", -1)
    for at, signs in enumerate(words):
        check_having(book, place, signs, at)
    few = len(places_of(numbers)) - 1
    if few > 0:
        # A word bars the lots at which it is 0: those that meet none of its places.
        barred = [places_of(signs) for signs in words]
        lot = first_meeting(other_places(book[1], (place,)), few - 1, barred)
        need(lot is None, "open", lot)
    return few


def check_alone(book, place, signs):
    """Raises InvalidPaper unless it is a word of the book that is not 0 at the place alone."""
    check_having(book, place, signs, -1)
    for other in places_of(signs):
        need(other == place, "other", other)


def check_having(book, place, signs, at):
    """Raises InvalidPaper, with this place of the paper, unless it is a word that has the place."""
    need(is_word_of(book, signs), "signs", at)
    need(signs[place] != 0, "nought", at)

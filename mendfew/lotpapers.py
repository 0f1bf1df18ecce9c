"""Papers of the price of few others."""

from mendfew.apartness import nearest_words
from mendfew.lots import other_places
from mendfew.price import price_of
from mendfew.rows import places_of
from mendfew.usable import want_book


def lot_paper(book):
    """A paper of the price: a word that is not all 0, and a lot at which it is; None if there is no price."""
    want_book(book, "book")
    if price_of(book) is None:
        return None
    word = nearest_words(book)[0]
    return ("price", other_places(book[1], places_of(word)), word)

"""Words with lost signs, and those signs that are told back."""

from mendfew.bookforms import is_signs_like
from mendfew.losses import back_of
from mendfew.lots import other_places
from mendfew.rows import bound_rows, cleared, cut_to, reduced_rows, scaled
from mendfew.usable import want, want_book


def filled(book, signs):
    """The signs, with those of the lost places, which have None, that are told back."""
    want_book(book, "book")
    want(is_signs_like(book, signs), "signs")
    lost = lost_in(signs)
    word = word_with(book, signs, other_places(book[1], lost))
    want(word is not None, "signs")
    back = back_of(book, lost)
    return tuple([word[place] if place in back else sign for place, sign in enumerate(signs)])


def lost_in(signs):
    """The lot of the places with None."""
    return tuple([place for place, sign in enumerate(signs) if sign is None])


def word_with(book, signs, kept):
    """A word of the book that has these signs at the kept places; None if no word has."""
    prime, size, sums = book
    many = len(kept)
    # Each row is what a word has at the kept places, and then the word: what is taken off
    # the kept signs, to make them 0, stands behind them.
    rows = reduced_rows(prime, [cut_to(word, kept) + word for word in bound_rows(prime, size, sums)])
    rest = cleared(prime, cut_to(signs, kept) + (0,) * size, rows)
    if any(rest[:many]):
        return None
    return scaled(prime, -1, rest[many:])

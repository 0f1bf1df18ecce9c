"""Which places are told back when a lot of them is lost."""

from mendfew.rows import bound_within, reduced_rows
from mendfew.usable import want_book, want_lost


def told_back(book, lost):
    """The set of the lost places that are told back by those that are not lost."""
    want_book(book, "book")
    want_lost(book, lost)
    return back_of(book, lost)


def is_mended(book, lost):
    """Whether all lost places are told back."""
    want_book(book, "book")
    want_lost(book, lost)
    return back_of(book, lost) == lost


def back_of(book, lost):
    """The lost places at which no words differ that are alike where nothing is lost."""
    words = words_within(book, lost)
    return tuple([place for place in lost if not any([word[place] for word in words])])


def words_within(book, lot):
    """The reduced words of all those that are 0 outside of the lot."""
    prime, size, sums = book
    return bound_within(prime, size, reduced_rows(prime, sums), lot)

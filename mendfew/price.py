"""The price of few others: how far words can lie apart at most."""

from mendfew.apartness import nearest_words
from mendfew.fewness import few_of
from mendfew.lots import other_places
from mendfew.rows import bound_rows, places_of
from mendfew.usable import want_book


def price_of(book):
    """The greatest apart that is possible where so many signs are told, each by so few others.

    None if the book tells none, or has a place that no others tell.
    """
    want_book(book, "book")
    bound = bound_places(book)
    return None if bound is None else book[1] - bound


def few_lot(book):
    """A lot of as many places as the price leaves, or more, on which fewer signs are told.

    None if there is no price.
    """
    want_book(book, "book")
    if bound_places(book) is None:
        return None
    # Two words that are as near as can be are alike on it.
    return other_places(book[1], places_of(nearest_words(book)[0]))


def is_best(book):
    """Whether the words lie as far apart as the price allows."""
    want_book(book, "book")
    bound = bound_places(book)
    if bound is None:
        return False
    return len(places_of(nearest_words(book)[0])) == book[1] - bound


def bound_places(book):
    """On how many places two unlike words may be alike even in the best book; None without a price."""
    prime, size, sums = book
    told = len(bound_rows(prime, size, sums))
    if told == 0:
        return None
    few = few_of(book)
    if few is None:
        return None
    return told - 2 + (told + few - 1) // few

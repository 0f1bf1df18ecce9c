"""Refusals of parameters that are not as stated."""

from mendfew.bookforms import (
    book_fault, is_costs_of, is_lot_of, is_place_of, is_sum_like, is_sums_of, is_word_of)
from mendfew.errors import NotUsable


def want(fits, name):
    """Raises NotUsable for the parameter of this name unless it fits."""
    if not fits:
        raise NotUsable(name, -1)


def want_book(thing, name):
    """Raises it unless the value is a book."""
    want(book_fault(thing) is None, name)


def want_place(book, thing):
    """Raises it unless the value is a place of the book."""
    want(is_place_of(book, thing), "place")


def want_lot(book, thing):
    """Raises it unless the value is a lot of the book."""
    want(is_lot_of(book, thing), "lot")


def want_lost(book, thing):
    """Raises it unless the value is a lot of the book."""
    want(is_lot_of(book, thing), "lost")


def want_costs(book, thing):
    """Raises it unless the value tells what reading each place of the book costs, or is None."""
    want(is_costs_of(book, thing), "costs")


def want_sums(book, thing):
    """Raises it unless the value is a tuple of sums of the book."""
    want(is_sums_of(book, thing), "sums")


def want_sum(book, thing):
    """Raises it unless the value is a sum for the size and the prime of the book."""
    want(is_sum_like(book, thing), "numbers")


def want_word(book, thing, name):
    """Raises it unless the value is a word of the book."""
    want(is_word_of(book, thing), name)

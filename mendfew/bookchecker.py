"""The checker of books, and of lots and words of a book."""

from mendfew.bookforms import book_fault, is_lot_of, is_word_of
from mendfew.errors import InvalidPaper
from mendfew.usable import want_book


def is_book(thing):
    """Whether any value is a book."""
    return book_fault(thing) is None


def lets_book(thing):
    """How many sums a book has; raises InvalidPaper for any value that is none."""
    fault = book_fault(thing)
    if fault is not None:
        word, at = fault
        raise InvalidPaper(word, at)
    return len(thing[2])


def is_lot(book, thing):
    """Whether any value is a lot of the book."""
    want_book(book, "book")
    return is_lot_of(book, thing)


def is_word(book, thing):
    """Whether any value is a word of the book."""
    want_book(book, "book")
    return is_word_of(book, thing)

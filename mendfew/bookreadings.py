"""Readers of books, lots and words."""

from mendfew.bookforms import is_place_of, is_word_of
from mendfew.errors import InvalidText
from mendfew.linewords import head_read, number_in, numbers_read, sum_read
from mendfew.usable import want, want_book


def book_read(text):
    """The book that the text writes."""
    want(isinstance(text, str), "text")
    lines = text.split("\n")
    prime, size = head_read(lines[0], 0)
    sums = [sum_read(prime, size, lines[line], line) for line in range(1, len(lines))]
    return (prime, size, tuple(sums))


def lot_read(book, text):
    """The lot of the book that the text writes."""
    want_book(book, "book")
    want(isinstance(text, str), "text")
    words = text.split(" ")
    if words[0] == "-":
        if len(words) > 1:
            raise InvalidText(0, 1)
        return ()
    lot = []
    for field, word in enumerate(words):
        place = number_in(word)
        if not is_place_of(book, place) or (len(lot) > 0 and place <= lot[-1]):
            raise InvalidText(0, field)
        lot.append(place)
    return tuple(lot)


def signs_read(book, text):
    """The word of the book that the text writes."""
    want_book(book, "book")
    want(isinstance(text, str), "text")
    prime, size, _ = book
    signs = numbers_read(text.split(" "), 0, size, prime, 0)
    if not is_word_of(book, signs):
        raise InvalidText(0, 0)
    return signs

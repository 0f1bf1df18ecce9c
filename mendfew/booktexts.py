"""Texts of books, lots and words."""

from mendfew.usable import want_book, want_lot, want_word


def book_text(book):
    """The line of the prime and the size, and a line for each sum."""
    want_book(book, "book")
    prime, size, sums = book
    rows = [f"sum {numbers_text(numbers)}" for numbers in sums]
    return "\n".join([f"book {prime} {size}", *rows])


def lot_text(book, lot):
    """The places of the lot; - if there are none."""
    want_book(book, "book")
    want_lot(book, lot)
    if len(lot) == 0:
        return "-"
    return numbers_text(lot)


def signs_text(book, signs):
    """The signs of the word."""
    want_book(book, "book")
    want_word(book, signs, "signs")
    return numbers_text(signs)


def numbers_text(numbers):
    """The numbers in decimal, with single spaces between."""
    return " ".join([str(number) for number in numbers])

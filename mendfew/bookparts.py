"""What a book tells, its base words and base sums, and all its words."""

from mendfew.bookforms import is_kept
from mendfew.rows import bound_rows, plus_scaled, rank_on, reduced_rows
from mendfew.usable import want_book, want_lot, want_sum


def told_signs(book):
    """How many signs the book tells."""
    want_book(book, "book")
    prime, size, sums = book
    return size - len(reduced_rows(prime, sums))


def told_on(book, lot):
    """How many signs the book tells on the lot."""
    want_book(book, "book")
    want_lot(book, lot)
    prime, size, sums = book
    return rank_on(prime, bound_rows(prime, size, sums), lot)


def keeps(book, numbers):
    """Whether all words of the book keep this sum."""
    want_book(book, "book")
    want_sum(book, numbers)
    return is_kept(book, numbers)


def base_words(book):
    """The reduced words of which each word of the book is a sum."""
    want_book(book, "book")
    prime, size, sums = book
    return bound_rows(prime, size, sums)


def base_sums(book):
    """The reduced sums of which each sum of the book is a sum."""
    want_book(book, "book")
    prime, _, sums = book
    return reduced_rows(prime, sums)


def all_words(book):
    """All words of the book, ascending, one by one."""
    want_book(book, "book")
    prime, size, sums = book
    base = bound_rows(prime, size, sums)
    # Words ascend as the signs at the first places of the base words do, which are free.
    signs = [0 for _ in base]
    word = (0,) * size
    while True:
        yield word
        at = len(base) - 1
        while at >= 0 and signs[at] == prime - 1:
            signs[at] = 0
            word = plus_scaled(prime, word, 1, base[at])
            at = at - 1
        if at < 0:
            return
        signs[at] = signs[at] + 1
        word = plus_scaled(prime, word, 1, base[at])

"""How many lots of each size are told back wholly, and mended wholly by goings."""

from mendfew.goings import left_in_end
from mendfew.lots import all_places, lots_of
from mendfew.rows import rank_on, reduced_rows
from mendfew.usable import want_book, want_sums


def losses_by_size(book):
    """For each number from 0 to the size, of how many lots of so many places all are told back."""
    want_book(book, "book")
    prime, size, sums = book
    base = reduced_rows(prime, sums)
    # All places of a lot are told back if the sums, cut to it, tell each of them for itself.
    return tuple([
        len([lot for lot in lots_of(all_places(size), many) if rank_on(prime, base, lot) == many])
        for many in range(size + 1)
    ])


def goings_by_size(book, sums):
    """For each number from 0 to the size, how many lots of so many places goings by the sums mend wholly."""
    want_book(book, "book")
    want_sums(book, sums)
    size = book[1]
    return tuple([
        len([lot for lot in lots_of(all_places(size), many) if len(left_in_end(sums, lot)) == 0])
        for many in range(size + 1)
    ])

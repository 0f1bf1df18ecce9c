"""Papers of how far words of a book lie apart."""

from mendfew.apartness import nearest_words
from mendfew.lots import all_places, lots_of, other_places
from mendfew.rows import bound_rows, cut_to, first_place, places_of, reduced_rows
from mendfew.usable import want_book


def apart_paper(book):
    """A paper of the apart of the book.

    It is a pair of words that are as near as can be, and lots that tell all signs; words that
    are nearer would not differ at one of them. Or it says that there is one word alone.
    """
    want_book(book, "book")
    words = nearest_words(book)
    if len(words) == 0:
        return ("alone",)
    apart = len(places_of(words[0]))
    return ("pair", (0,) * book[1], words[0], telling_lots(book, apart - 1))


def telling_lots(book, many):
    """Lots that tell all signs; each lot of so many places, fewer than the apart, misses one."""
    prime, size, sums = book
    words = bound_rows(prime, size, sums)
    lots = []
    for missed in lots_of(all_places(size), many):
        if not any([misses(lot, missed) for lot in lots]):
            lots.append(telling_lot(prime, words, other_places(size, missed)))
    return tuple(lots)


def misses(lot, other):
    """Whether both lots have no common place."""
    return not any([place in other for place in lot])


def telling_lot(prime, words, lot):
    """The first places of the lot by which the words are told as far as they are by the lot."""
    rows = reduced_rows(prime, [cut_to(word, lot) for word in words])
    return cut_to(lot, [first_place(row) for row in rows])

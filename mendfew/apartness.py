"""How far words of a book lie apart, and how many of its signs are not 0."""

from math import comb

from mendfew.lots import all_places, lots_of
from mendfew.rows import bound_within, cut_to, places_of, power_of, reduced_rows
from mendfew.usable import want_book, want_lot, want_word


def apart_of(book):
    """The least number of places at which two unlike words differ; None with one word alone."""
    want_book(book, "book")
    words = nearest_words(book)
    if len(words) == 0:
        return None
    return len(places_of(words[0]))


def near_words(book):
    """A pair of words that differ at just so many places; None with one word alone."""
    want_book(book, "book")
    words = nearest_words(book)
    if len(words) == 0:
        return None
    return ((0,) * book[1], words[0])


def near_lots(book):
    """The set of the lots of the places at which such pairs of words differ."""
    want_book(book, "book")
    return tuple(sorted([places_of(word) for word in nearest_words(book)]))


def weights_of(book):
    """How many words have so many signs that are not 0, for each number from 0 to size."""
    want_book(book, "book")
    size = book[1]
    weights = []
    for many in range(size + 1):
        # A word with fewer such places is counted once for each lot that has them all.
        fewer = [comb(size - less, many - less) * weights[less] for less in range(many)]
        weights.append(words_within_lots(book, many) - sum(fewer))
    return tuple(weights)


def signs_within(book, lot):
    """How many signs the words tell that are 0 at all places outside of the lot."""
    want_book(book, "book")
    want_lot(book, lot)
    return told_within(book, lot)


def differ_at(book, signs, late):
    """The lot of the places at which the two words differ."""
    want_book(book, "book")
    want_word(book, signs, "signs")
    want_word(book, late, "late")
    return differing_places(signs, late)


def differing_places(one, other):
    """The places at which two rows of as many numbers differ."""
    return tuple([place for place, number in enumerate(one) if number != other[place]])


def nearest_words(book):
    """The list of the words with the fewest places, but some, and 1 at the first of these.

    Two words differ where the one less the other is not 0, so all pairs that are as near
    as can be differ at the places of one of these.
    """
    prime, size, sums = book
    base = reduced_rows(prime, sums)
    if len(base) == size:
        return []
    found = []
    many = 1
    while len(found) == 0:
        # With as few places as can be, a lot has one such word at most.
        for lot in lots_of(all_places(size), many):
            found = [*found, *bound_within(prime, size, base, lot)]
        many = many + 1
    return found


def told_within(book, lot):
    """How many signs the words tell that are 0 outside of the lot."""
    prime, _, sums = book
    return len(lot) - len(reduced_rows(prime, [cut_to(numbers, lot) for numbers in sums]))


def words_within_lots(book, many):
    """For each lot of so many places, how many words are 0 outside of it, all together."""
    prime, size, sums = book
    base = (prime, size, reduced_rows(prime, sums))
    lots = lots_of(all_places(size), many)
    return sum([power_of(prime, told_within(base, lot)) for lot in lots])

"""Papers of how few other places tell a place."""

from mendfew.fewness import sums_of
from mendfew.lots import lots_of, other_places
from mendfew.rows import bound_within, places_of, reduced_rows, unit_row
from mendfew.usable import want_book, want_place


def few_paper(book, place):
    """A paper of the fewest of the place.

    It is a sum with so few others and words that bar all that have fewer; or, where no sum
    has the place, a word that is not 0 there alone.
    """
    want_book(book, "book")
    want_place(book, place)
    sums = sums_of(book, place)
    if len(sums) == 0:
        return ("none", unit_row(book[1], place))
    few = len(places_of(sums[0])) - 1
    return ("few", sums[0], barring_words(book, place, few))


def barring_words(book, place, few):
    """Words that are not 0 at the place; each lot of fewer others has one that is 0 on it."""
    if few == 0:
        return ()
    prime, size, sums = book
    base = reduced_rows(prime, sums)
    words = []
    for lot in lots_of(other_places(size, (place,)), few - 1):
        if not any([is_nought_on(word, lot) for word in words]):
            within = bound_within(prime, size, base, other_places(size, lot))
            # There is one that has the place, or a sum would tell it by this lot.
            words.append([word for word in within if word[place] != 0][0])
    return tuple(words)


def is_nought_on(word, lot):
    """Whether the word is 0 at all places of the lot."""
    return not any([word[place] for place in lot])

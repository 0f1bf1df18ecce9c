"""Books that have the same words, or have them when their places are put in another order."""

from mendfew.lots import all_places, orders_of
from mendfew.rows import cut_to, reduced_rows
from mendfew.usable import want_book


def same_words(one, other):
    """Whether both books have the same prime, size and words."""
    want_book(one, "one")
    want_book(other, "other")
    return reduced_book(one) == reduced_book(other)


def reduced(book):
    """The book with the same words whose sums are its base sums."""
    want_book(book, "book")
    return reduced_book(book)


def renumbering_to(one, other):
    """An order of the places of one with which it has the same words as the other, None if none has."""
    want_book(one, "one")
    want_book(other, "other")
    orders = orders_between(reduced_book(one), reduced_book(other))
    if len(orders) == 0:
        return None
    return orders[0]


def renumberings_of(book):
    """How many orders of the places leave the words as they are."""
    want_book(book, "book")
    base = reduced_book(book)
    return len(orders_between(base, base))


def like_places(book):
    """The set of the lots of places that such orders put in the place of one another."""
    want_book(book, "book")
    base = reduced_book(book)
    orders = orders_between(base, base)
    lots = [tuple(sorted({order[place] for order in orders})) for place in range(book[1])]
    return tuple(sorted(set(lots)))


def plain_book(book):
    """The first one, as Python sorts, of the reduced books of all orders of the places."""
    want_book(book, "book")
    base = reduced_book(book)
    return min([in_order(base, order) for order in orders_of(all_places(book[1]))])


def reduced_book(book):
    """The book with its base sums."""
    prime, size, sums = book
    return (prime, size, reduced_rows(prime, sums))


def in_order(book, order):
    """The reduced book of the book whose new place k is the old place order[k]."""
    prime, size, sums = book
    return (prime, size, reduced_rows(prime, [cut_to(numbers, order) for numbers in sums]))


def orders_between(one, other):
    """The list of the orders of the places with which one has the words of the other, a reduced book."""
    if one[:2] != other[:2] or len(one[2]) != len(other[2]):
        return []
    return [order for order in orders_of(all_places(one[1])) if in_order(one, order) == other]

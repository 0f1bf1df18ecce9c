"""Books that are made of other books."""

from mendfew.bookforms import MOST_PLACES, is_numbers, is_place_of
from mendfew.rows import bound_rows, cut_to, reduced_rows, without_item
from mendfew.usable import want, want_book, want_place, want_sum


def renumbered(book, places):
    """The book whose new place k is the old place places[k]."""
    want_book(book, "book")
    want(is_order_of(book, places), "places")
    prime, size, sums = book
    return (prime, size, tuple([cut_to(numbers, places) for numbers in sums]))


def is_order_of(book, thing):
    """Whether any value is a tuple of all places of the book, each once."""
    if not isinstance(thing, tuple) or not all([is_place_of(book, place) for place in thing]):
        return False
    return sorted(thing) == list(range(book[1]))


def with_sum(book, numbers):
    """The book with one more sum, the last one."""
    want_book(book, "book")
    want_sum(book, numbers)
    prime, size, sums = book
    return (prime, size, (*sums, numbers))


def with_place(book, numbers):
    """The book with one more place, whose sign is the sum of the signs, each times its number."""
    want_book(book, "book")
    prime, size, sums = book
    want(size < MOST_PLACES, "book")
    want(is_numbers(numbers, size, prime), "numbers")
    wider = [(*row, 0) for row in sums]
    return (prime, size + 1, (*wider, (*numbers, prime - 1)))


def side_by_side(one, other):
    """The book whose words are those of one, and behind each of them those of the other."""
    want_book(one, "one")
    want_book(other, "other")
    prime, size, sums = one
    late, wide, more = other
    want(late == prime and size + wide <= MOST_PLACES, "other")
    ahead = [numbers + (0,) * wide for numbers in sums]
    behind = [(0,) * size + numbers for numbers in more]
    return (prime, size + wide, (*ahead, *behind))


def without_place(book, place):
    """The book of all words of the book, each without its sign at the place."""
    want_book(book, "book")
    want_left_place(book, place)
    prime, size, sums = book
    words = [without_item(word, place) for word in bound_rows(prime, size, sums)]
    return (prime, size - 1, bound_rows(prime, size - 1, words))


def with_nought(book, place):
    """The book of those words of the book that have 0 at the place, without it."""
    want_book(book, "book")
    want_left_place(book, place)
    prime, size, sums = book
    return (prime, size - 1, reduced_rows(prime, [without_item(numbers, place) for numbers in sums]))


def want_left_place(book, place):
    """Raises NotUsable unless it is a place of the book, and not its only one."""
    want_place(book, place)
    want(book[1] > 1, "place")

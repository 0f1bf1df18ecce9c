"""How few other places tell a place of a book, and by which sums."""

from mendfew.bookforms import is_numbers, is_place_of, is_sum_of
from mendfew.lots import lots_of, other_places
from mendfew.rows import bound_rows, bound_within, cut_to, inverse_of, places_of, total_of
from mendfew.usable import want, want_book, want_place


def fewest_of(book, place):
    """The least number of other places in a sum of the book that has the place, None without any."""
    want_book(book, "book")
    want_place(book, place)
    sums = least_sums(book, place)
    if len(sums) == 0:
        return None
    return len(places_of(sums[0])) - 1


def few_of(book):
    """The greatest fewest of the places, but at least 1; None if some place has none."""
    want_book(book, "book")
    fewest = fewest_at_places(book)
    if None in fewest:
        return None
    return max([1, *fewest])


def sums_of(book, place):
    """The set of the sums that have the place and its fewest others, and 1 at their first place."""
    want_book(book, "book")
    want_place(book, place)
    return tuple(sorted(least_sums(book, place)))


def groups_of(book, place):
    """The set of the lots of the places of these sums."""
    want_book(book, "book")
    want_place(book, place)
    return tuple(sorted([places_of(numbers) for numbers in least_sums(book, place)]))


def sign_by(book, numbers, place, others):
    """The sign at the place of the sum with which it comes to 0, given the signs at its others."""
    want_book(book, "book")
    want(is_sum_of(book, numbers), "numbers")
    want(is_place_of(book, place) and numbers[place] != 0, "place")
    told_by = [other for other in places_of(numbers) if other != place]
    prime = book[0]
    want(is_numbers(others, len(told_by), prime), "others")
    total = total_of(prime, cut_to(numbers, told_by), others)
    return -total * inverse_of(numbers[place], prime) % prime


def least_sums(book, place):
    """The list of these sums, in the order of how many places are tried."""
    prime, size, sums = book
    if not any([numbers[place] for numbers in sums]):
        return []
    words = bound_rows(prime, size, sums)
    others = other_places(size, (place,))
    found = []
    many = 0
    while len(found) == 0:
        # With as few places as can be, a lot has one such sum at most: two of them together
        # would give one with fewer places.
        for lot in lots_of(others, many):
            within = bound_within(prime, size, words, sorted([place, *lot]))
            found = [*found, *[numbers for numbers in within if numbers[place] != 0]]
        many = many + 1
    return found


def fewest_at_places(book):
    """The list of the fewest of each place."""
    prime, size, sums = book
    words = bound_rows(prime, size, sums)
    bound = sorted({at for row in sums for at in places_of(row)})
    fewest = [None for _ in range(size)]
    many = 1
    while any([fewest[at] is None for at in bound]):
        for lot in lots_of(bound, many):
            for numbers in bound_within(prime, size, words, lot):
                for place in places_of(numbers):
                    if fewest[place] is None:
                        fewest[place] = many - 1
        many = many + 1
    return fewest

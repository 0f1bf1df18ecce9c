"""What makes a value a book, or a place, a lot, a sum or a word of a book that is known to be one."""

from mendfew.kinds import is_integer, is_number, is_prime
from mendfew.rows import cleared, reduced_rows, total_of

MOST_PLACES = 100


def is_numbers(thing, many, below):
    """Whether any value is a tuple of so many numbers below another number."""
    if not isinstance(thing, tuple) or len(thing) != many:
        return False
    return all([is_number(number) and number < below for number in thing])


def is_size(thing):
    """Whether any value is how many places a book may have."""
    return is_integer(thing) and 1 <= thing <= MOST_PLACES


def book_fault(thing):
    """The pair of the word and the place for which any value is no book; None if it is one."""
    if not isinstance(thing, tuple) or len(thing) != 3:
        return ("shape", -1)
    prime, size, sums = thing
    if not is_prime(prime):
        return ("prime", -1)
    if not is_size(size):
        return ("size", -1)
    if not isinstance(sums, tuple):
        return ("sums", -1)
    for at, numbers in enumerate(sums):
        if not is_numbers(numbers, size, prime):
            return ("sum", at)
        if not any(numbers):
            return ("nought", at)
    return None


def is_place_of(book, thing):
    """Whether any value is a place of the book."""
    return is_number(thing) and thing < book[1]


def is_lot_of(book, thing):
    """Whether any value is an ascending tuple of places of the book."""
    if not isinstance(thing, tuple) or not all([is_place_of(book, place) for place in thing]):
        return False
    return all([thing[at - 1] < thing[at] for at in range(1, len(thing))])


def is_sum_like(book, thing):
    """Whether any value is a sum for the size and the prime of the book."""
    prime, size, _ = book
    return is_numbers(thing, size, prime) and any(thing)


def is_kept(book, numbers):
    """Whether all words of the book keep a sum for its size and its prime."""
    prime, _, sums = book
    return not any(cleared(prime, numbers, reduced_rows(prime, sums)))


def is_sum_of(book, thing):
    """Whether any value is a sum of the book."""
    return is_sum_like(book, thing) and is_kept(book, thing)


def is_sums_of(book, thing):
    """Whether any value is a tuple of sums of the book."""
    if not isinstance(thing, tuple):
        return False
    prime, _, sums = book
    base = reduced_rows(prime, sums)
    return all([
        is_sum_like(book, numbers) and not any(cleared(prime, numbers, base)) for numbers in thing
    ])


def is_costs_of(book, thing):
    """Whether any value is a tuple with a number for each place of the book, or None."""
    if thing is None:
        return True
    return isinstance(thing, tuple) and len(thing) == book[1] and all([is_number(cost) for cost in thing])


def is_signs_like(book, thing):
    """Whether any value is a tuple with a number below the prime of the book, or None, for each place."""
    prime, size, _ = book
    if not isinstance(thing, tuple) or len(thing) != size:
        return False
    return all([sign is None or (is_number(sign) and sign < prime) for sign in thing])


def is_word_of(book, thing):
    """Whether any value is a word of the book."""
    prime, size, sums = book
    if not is_numbers(thing, size, prime):
        return False
    return all([total_of(prime, numbers, thing) == 0 for numbers in sums])

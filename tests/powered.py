"""Which books by powers there are within the limits, for the tests of more than one module."""

from math import gcd

from helpers import power_rows
from mendfew.bookchecker import is_book, is_word
from mendfew.bookparts import base_sums, told_on, told_signs

PRIMES = (2, 3, 5, 7, 11, 13)


def most(prime):
    """How many places books by powers have at most."""
    return min(12, prime - 1)


def all_powers():
    """Each (prime, few, many, told) of powers_book."""
    return [
        (prime, few, many, told) for prime in PRIMES for few in range(1, most(prime))
        if (prime - 1) % (few + 1) == 0
        for many in range(1, most(prime) // (few + 1) + 1) for told in range(1, few * many + 1)]


def all_nested():
    """Each (prime, few, wide, inner, many) of nested_book."""
    return [
        (prime, few, wide, inner, many) for prime in PRIMES for few in range(1, most(prime))
        for wide in range(few + 1, most(prime) + 1, few + 1) if (prime - 1) % wide == 0
        for inner in range(1, wide + 1) for many in range(1, most(prime) // wide + 1)]


def all_crossed():
    """Each (prime, one, other, many) of crossed_book."""
    return [
        (prime, one, other, many) for prime in PRIMES for one in range(2, most(prime) // 2 + 1)
        for other in range(2, most(prime) // one + 1)
        if gcd(one, other) == 1 and (prime - 1) % (one * other) == 0
        for many in range(1, most(prime) // (one * other) + 1)]


def same_rest(numbers, exponent, prime):
    """The lots of the places whose numbers have one and the same power, in the order of first places."""
    classes = {}
    for place, number in enumerate(numbers):
        classes.setdefault(pow(number, exponent, prime), []).append(place)
    return tuple(tuple(lot) for lot in classes.values())


def is_book_by(book, prime, numbers, used):
    """Whether its words are just all sums of these powers, which are not bound to each other."""
    rows = power_rows(prime, numbers, used)
    return (
        is_book(book) and book[:2] == (prime, len(numbers)) and all(is_word(book, row) for row in rows)
        and told_signs(book) == len(used) and book[2] == base_sums(book))


def is_told_by(book, place, lot):
    """Whether words that are the same on the lot are the same at the place."""
    return told_on(book, tuple(sorted({place, *lot}))) == told_on(book, lot)

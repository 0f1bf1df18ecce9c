"""Books by powers: each place is told by the others of its class, and no book lies further apart."""

from mendfew.kinds import is_prime
from mendfew.lots import classes_by
from mendfew.powerforms import is_from, want_classes, want_from
from mendfew.powerrows import book_by, numbers_by, primitive_below
from mendfew.usable import want


def primitive_of(prime):
    """The least integer from 1 on of which all numbers from 1 to prime - 1 are powers, modulo prime."""
    want(is_prime(prime), "prime")
    return primitive_below(prime)


def class_numbers(prime, wide, many):
    """The numbers of the places of so many classes by wide."""
    want(is_prime(prime), "prime")
    want(is_from(wide, 1) and (prime - 1) % wide == 0, "wide")
    want_classes(prime, wide, many)
    return numbers_by(prime, wide, many)


def powers_used(few, told):
    """The first so many exponents of which the rest by few + 1 is not few."""
    want_from(few, 1, "few")
    want_from(told, 1, "told")
    return exponents_used(few, told)


def powers_places(prime, few, many):
    """The numbers of the places of so many classes by few + 1."""
    want_powers(prime, few, many)
    return numbers_by(prime, few + 1, many)


def powers_groups(few, many):
    """The tuple of so many lots of few + 1 places, one behind the other."""
    want_from(few, 1, "few")
    want_from(many, 1, "many")
    return classes_by(few + 1, 1, many)


def powers_book(prime, few, many, told):
    """The book whose words are all sums of so many of the powers used, each times a number."""
    want_powers(prime, few, many)
    want(is_from(told, 1) and told <= few * many, "told")
    return book_by(prime, numbers_by(prime, few + 1, many), exponents_used(few, told))


def want_powers(prime, few, many):
    """Raises NotUsable for the first of them that is not as stated."""
    want(is_prime(prime), "prime")
    want(is_from(few, 1) and (prime - 1) % (few + 1) == 0, "few")
    want_classes(prime, few + 1, many)


def exponents_used(few, told):
    """The first so many exponents of which the rest by few + 1 is not few."""
    # Of few + 1 exponents one behind the other the last one is left out.
    return tuple([at // few * (few + 1) + at % few for at in range(told)])

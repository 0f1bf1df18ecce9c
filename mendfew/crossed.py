"""Books by powers with two groups for each place, of which either tells it."""

from math import gcd

from mendfew.kinds import is_prime
from mendfew.lots import classes_by
from mendfew.powerforms import is_from, want_classes, want_from, want_told
from mendfew.powerrows import book_by, numbers_by
from mendfew.usable import want


def crossed_used(one, other, many):
    """The set of all exponents of so many classes by one * other that both kinds of groups leave."""
    want_groups(one, other, many)
    return exponents_left(one, other, many)


def crossed_groups(one, other, many):
    """The pair of the classes by one, and of those by other."""
    want_groups(one, other, many)
    return (classes_by(one * other, other, many), classes_by(one * other, one, many))


def crossed_book(prime, one, other, many, told):
    """The book whose words are all sums of so many of the powers used, each times a number."""
    want(is_prime(prime), "prime")
    want_from(one, 2, "one")
    want(is_other_for(one, other) and (prime - 1) % (one * other) == 0, "other")
    want_classes(prime, one * other, many)
    used = exponents_left(one, other, many)
    want_told(told, used)
    return book_by(prime, numbers_by(prime, one * other, many), used[:told])


def want_groups(one, other, many):
    """Raises NotUsable for the first of them that is not as stated."""
    want_from(one, 2, "one")
    want(is_other_for(one, other), "other")
    want_from(many, 1, "many")


def is_other_for(one, thing):
    """Whether any value is an integer from 2 on without a common divisor with one."""
    return is_from(thing, 2) and gcd(one, thing) == 1


def exponents_left(one, other, many):
    """The exponents below one * other * many whose rests by one and by other are not the last ones."""
    return tuple([
        used for used in range(one * other * many)
        if used % one != one - 1 and used % other != other - 1
    ])

"""Books by powers with groups within groups: few others tell a place, or more of a wider group."""

from mendfew.kinds import is_prime
from mendfew.lots import classes_by
from mendfew.powerforms import is_from, want_classes, want_from, want_told
from mendfew.powerrows import book_by, numbers_by
from mendfew.usable import want


def nested_used(few, wide, inner, many):
    """The set of all exponents of so many classes by wide that both kinds of groups leave."""
    want_from(few, 1, "few")
    want(is_wide_for(few, wide), "wide")
    want(is_from(inner, 1) and inner <= wide, "inner")
    want_from(many, 1, "many")
    return exponents_left(few, wide, inner, many)


def nested_groups(prime, few, wide, many):
    """The pair of the classes by few + 1, and of those by wide, in which they lie."""
    want_wide(prime, few, wide)
    want_classes(prime, wide, many)
    # Places of one narrow class follow one another by this step.
    step = wide // (few + 1)
    return (classes_by(wide, step, many), classes_by(wide, 1, many))


def nested_book(prime, few, wide, inner, many, told):
    """The book whose words are all sums of so many of the powers used, each times a number."""
    want_wide(prime, few, wide)
    want(is_from(inner, 1) and inner <= wide, "inner")
    want_classes(prime, wide, many)
    used = exponents_left(few, wide, inner, many)
    want_told(told, used)
    return book_by(prime, numbers_by(prime, wide, many), used[:told])


def want_wide(prime, few, wide):
    """Raises NotUsable for the first of them that is not as stated."""
    want(is_prime(prime), "prime")
    want_from(few, 1, "few")
    want(is_wide_for(few, wide) and (prime - 1) % wide == 0, "wide")


def is_wide_for(few, thing):
    """Whether any value is a multiple of few + 1, from few + 1 on."""
    return is_from(thing, few + 1) and thing % (few + 1) == 0


def exponents_left(few, wide, inner, many):
    """The exponents below wide * many whose rest by few + 1 is not few, and by wide below inner."""
    return tuple([
        used for used in range(wide * many) if used % (few + 1) != few and used % wide < inner
    ])

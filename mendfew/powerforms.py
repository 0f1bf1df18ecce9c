"""Refusals of parameters of books by powers."""

from mendfew.kinds import is_integer
from mendfew.usable import want


def is_from(thing, least):
    """Whether any value is an integer from the least one on."""
    return is_integer(thing) and thing >= least


def want_from(thing, least, name):
    """Raises NotUsable for the parameter of this name unless it is an integer from the least one on."""
    want(is_from(thing, least), name)


def want_classes(prime, wide, many):
    """Raises it unless so many classes of this width have unlike numbers below prime."""
    want(is_from(many, 1) and wide * many <= prime - 1, "many")


def want_told(thing, used):
    """Raises it unless it is an integer from 1 to how many exponents there are."""
    want(is_from(thing, 1) and thing <= len(used), "told")

"""What papers have the form of, and refusals of those that are not as they should be."""

from mendfew.errors import InvalidPaper


def is_form(thing, first, many):
    """Whether any value is a tuple of so many elements, of which this string is the first one."""
    return isinstance(thing, tuple) and len(thing) == many and thing[0] == first


def need(fits, word, at):
    """Raises InvalidPaper with this word and this place unless the paper fits."""
    if not fits:
        raise InvalidPaper(word, at)

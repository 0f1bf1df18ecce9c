"""What has the form of an event, of a name and of a story."""

from mendfew.bookforms import MOST_PLACES, book_fault, is_numbers, is_word_of
from mendfew.kinds import is_number
from mendfew.paperforms import is_form

LETTERS = "abcdefghijklmnopqrstuvwxyz"
MOST_LETTERS = 8


def is_name(thing):
    """Whether any value is a string of one to eight lowercase letters."""
    if not isinstance(thing, str) or not 1 <= len(thing) <= MOST_LETTERS:
        return False
    return all([letter in LETTERS for letter in thing])


def is_row_below(prime, thing):
    """Whether any value is a tuple of one to a hundred numbers below the prime."""
    if not isinstance(thing, tuple) or not 1 <= len(thing) <= MOST_PLACES:
        return False
    return is_numbers(thing, len(thing), prime)


def is_event_for(prime, thing):
    """Whether any value is, by form, an event for books with this prime."""
    if is_form(thing, "lose", 2) or is_form(thing, "mend", 2):
        return is_number(thing[1])
    if is_form(thing, "write", 2) or is_form(thing, "widen", 2):
        return is_row_below(prime, thing[1])
    if is_form(thing, "mark", 2):
        return is_name(thing[1])
    return is_form(thing, "going", 1)


def is_beginning(thing):
    """Whether any value is how a story begins: a book, and a word of it."""
    return is_form(thing, "live", 3) and book_fault(thing[1]) is None and is_word_of(thing[1], thing[2])


def is_story_like(thing):
    """Whether any value is a beginning, followed by events for its book by form."""
    if not isinstance(thing, tuple) or len(thing) == 0 or not is_beginning(thing[0]):
        return False
    prime = thing[0][1][0]
    return all([is_event_for(prime, event) for event in thing[1:]])

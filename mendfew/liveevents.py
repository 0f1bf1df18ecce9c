"""Events of a live shelf."""

from mendfew.eventforms import is_event_for
from mendfew.usable import want_book


def is_event(book, thing):
    """Whether any value is an event for the book by form."""
    want_book(book, "book")
    return is_event_for(book[0], thing)

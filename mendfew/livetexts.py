"""Lines of events and of stories."""

from mendfew.booktexts import book_text, numbers_text
from mendfew.eventforms import is_event_for, is_story_like
from mendfew.usable import want, want_book


def event_line(book, event):
    """The line of an event: its first word, then the place, the name, or the numbers."""
    want_book(book, "book")
    want(is_event_for(book[0], event), "event")
    return line_of(event)


def story_lines(story):
    """The list of the lines of a story: its book, its word, and its events."""
    want(is_story_like(story), "story")
    _, book, signs = story[0]
    lines = [line_of(event) for event in story[1:]]
    return ["live", *book_text(book).split("\n"), f"signs {numbers_text(signs)}", *lines]


def line_of(event):
    """The line of an event that is known to be one."""
    if len(event) == 1:
        return event[0]
    if isinstance(event[1], tuple):
        return f"{event[0]} {numbers_text(event[1])}"
    return f"{event[0]} {event[1]}"

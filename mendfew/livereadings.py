"""Readers of events and of stories."""

from mendfew.bookforms import MOST_PLACES, is_word_of
from mendfew.errors import InvalidText
from mendfew.eventforms import is_name
from mendfew.linewords import (
    first_word_read, head_read, no_more_read, number_in, numbers_read, some_numbers_read, sum_read)
from mendfew.usable import want, want_book


def read_event(book, text):
    """The event for the book that the text writes."""
    want_book(book, "book")
    want(isinstance(text, str), "text")
    return event_read(book[0], text, 0)


def read_story(lines):
    """The story that the lines write."""
    want(is_lines(lines), "lines")
    live_read(line_at(lines, 0))
    prime, size = head_read(line_at(lines, 1), 1)
    sums, line = [], 2
    while line_at(lines, line).split(" ")[0] != "signs":
        sums.append(sum_read(prime, size, lines[line], line))
        line = line + 1
    book = (prime, size, tuple(sums))
    signs = numbers_read(lines[line].split(" "), 1, size, prime, line)
    if not is_word_of(book, signs):
        raise InvalidText(line, 0)
    events = [event_read(prime, lines[late], late) for late in range(line + 1, len(lines))]
    return (("live", book, signs), *events)


def is_lines(thing):
    """Whether any value is a list of strings without newlines."""
    if not isinstance(thing, list):
        return False
    return all([isinstance(text, str) and "\n" not in text for text in thing])


def line_at(lines, line):
    """The line of this index; raises InvalidText if it is missing."""
    if line >= len(lines):
        raise InvalidText(line, 0)
    return lines[line]


def live_read(text):
    """Raises InvalidText unless the text is the first line of a story."""
    words = text.split(" ")
    first_word_read(words, "live", 0)
    no_more_read(words, 1, 0)


def event_read(prime, text, line):
    """The event that a line writes, for books with this prime."""
    words = text.split(" ")
    first = words[0]
    if first == "lose" or first == "mend":
        return (first, place_read(words, line))
    if first == "mark":
        return (first, name_read(words, line))
    if first == "write" or first == "widen":
        return (first, some_numbers_read(words, 1, 1, MOST_PLACES, prime, line))
    first_word_read(words, "going", line)
    no_more_read(words, 1, line)
    return (first,)


def place_read(words, line):
    """The number that the second word, the last one, writes."""
    place = number_in(words[1]) if len(words) > 1 else None
    if place is None:
        raise InvalidText(line, 1)
    no_more_read(words, 2, line)
    return place


def name_read(words, line):
    """The name that the second word, the last one, is."""
    if len(words) == 1 or not is_name(words[1]):
        raise InvalidText(line, 1)
    no_more_read(words, 2, line)
    return words[1]

"""Papers of which lost places are told back."""

from mendfew.losses import words_within
from mendfew.rows import bound_rows, bound_within
from mendfew.usable import want_book, want_lost


def loss_paper(book, lost):
    """An entry for each lost place: a sum that tells it back, or two words that differ at it.

    These are alike at all places that are not lost.
    """
    want_book(book, "book")
    want_lost(book, lost)
    return tuple([loss_entry(book, lost, place) for place in lost])


def loss_entry(book, lost, place):
    """The entry for this lost place."""
    words = [word for word in words_within(book, lost) if word[place] != 0]
    if len(words) > 0:
        return ("alike", (0,) * book[1], words[0])
    return ("told", telling_sum(book, lost, place))


def telling_sum(book, lost, place):
    """A sum of the book that has this place, and no other one that is lost; None if there is none."""
    prime, size, sums = book
    told_by = [other for other in range(size) if other == place or other not in lost]
    for numbers in bound_within(prime, size, bound_rows(prime, size, sums), told_by):
        if numbers[place] != 0:
            return numbers
    return None

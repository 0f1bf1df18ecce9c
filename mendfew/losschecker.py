"""The checker of papers of which lost places are told back."""

from mendfew.apartness import differing_places
from mendfew.bookforms import is_sum_of, is_word_of
from mendfew.paperforms import is_form, need
from mendfew.usable import want_book, want_lost


def lets_loss(book, lost, thing):
    """The set of the lost places that are told back, by a paper; raises InvalidPaper for any other value."""
    want_book(book, "book")
    want_lost(book, lost)
    need(isinstance(thing, tuple) and len(thing) == len(lost), "shape", -1)
    for at, entry in enumerate(thing):
        told = is_form(entry, "told", 2)
        need(told or is_form(entry, "alike", 3), "entry", at)
        if told:
            check_told(book, lost, at, entry[1])
        else:
            check_alike(book, lost, at, entry[1:])
    return tuple([place for place, part in zip(lost, thing) if part[0] == "told"])


def check_told(book, lost, at, numbers):
    """Raises InvalidPaper unless it is a sum of the book with the lost place of this index alone."""
    need(is_sum_of(book, numbers), "sum", at)
    gone = [place for place in lost if numbers[place] != 0]
    need(gone == [lost[at]], "only", at)


def check_alike(book, lost, at, words):
    """Raises InvalidPaper unless these are two words that differ there, but at no place that is not lost."""
    for late, signs in enumerate(words):
        need(is_word_of(book, signs), "signs", (at, late))
    one, other = words
    apart = differing_places(one, other)
    need(lost[at] in apart, "same", at)
    need(all([place in lost for place in apart]), "kept", at)

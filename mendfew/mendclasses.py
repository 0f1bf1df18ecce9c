"""Losses as objects: a book and a lot of it that is lost."""

from mendfew.bookforms import is_place_of, is_signs_like
from mendfew.booktexts import lot_text
from mendfew.goings import goings
from mendfew.kinds import is_number
from mendfew.losses import told_back
from mendfew.losspapers import loss_entry
from mendfew.mending import filled, lost_in
from mendfew.readings import reads_for
from mendfew.usable import want, want_book, want_lost


class Loss:
    """A book of which a lot is lost; it never changes, and what is made of it is a new one."""

    def __init__(self, book, lost):
        want_book(book, "book")
        want_lost(book, lost)
        self._book = book
        self._lost = lost

    @property
    def book_now(self):
        """The book."""
        return self._book

    @property
    def lost_now(self):
        """The lot that is lost."""
        return self._lost

    @property
    def back_now(self):
        """The set of the lost places that are told back."""
        return told_back(self._book, self._lost)

    @property
    def gone_now(self):
        """The set of the other lost places."""
        back = told_back(self._book, self._lost)
        return tuple([place for place in self._lost if place not in back])

    def reads_for(self, place, costs=None):
        """A lot of the least cost, without a lost place, that tells the place; None if there is none."""
        return reads_for(self._book, place, self._lost, costs)

    def goings(self, sums):
        """For each going by these sums that mends something, the set of the places that it mends."""
        return goings(self._book, sums, self._lost)

    def __getitem__(self, at):
        want(is_lost_in(self._book, self._lost, at), "place")
        return loss_entry(self._book, self._lost, at)

    def __call__(self, signs):
        want(is_signs_like(self._book, signs) and lost_in(signs) == self._lost, "signs")
        return filled(self._book, signs)

    def __contains__(self, x):
        return is_lost_in(self._book, self._lost, x)

    def __len__(self):
        return len(self._lost)

    def __iter__(self):
        return iter(self._lost)

    def __str__(self):
        return str(lot_text(self._book, self._lost))

    def __eq__(self, other):
        return isinstance(other, Loss) and self._book == other._book and self._lost == other._lost

    def __add__(self, other):
        want(is_place_of(self._book, other) and other not in self._lost, "place")
        return Loss(self._book, tuple(sorted([other, *self._lost])))

    def __sub__(self, other):
        want(is_lost_in(self._book, self._lost, other), "place")
        return Loss(self._book, tuple([place for place in self._lost if place != other]))


class Burst(Loss):
    """The loss of so many places from a first one on."""

    def __init__(self, book, first, many):
        want_book(book, "book")
        want(is_place_of(book, first), "first")
        want(is_number(many) and many <= book[1] - first, "many")
        super().__init__(book, tuple(range(first, first + many)))
        self._first = first

    @property
    def first_now(self):
        """The place from which on places are lost."""
        return self._first


def is_lost_in(book, lost, thing):
    """Whether any value is one of the lost places of the book."""
    return is_place_of(book, thing) and thing in lost

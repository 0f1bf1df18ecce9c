"""Books by powers as objects."""

from mendfew.bookclasses import Book
from mendfew.bookforms import is_numbers, is_word_of
from mendfew.powerrows import power_rows
from mendfew.powers import powers_book, powers_groups, powers_places, powers_used
from mendfew.rows import cleared, plus_scaled, reduced_rows, unit_row
from mendfew.usable import want


class Powered(Book):
    """The book of powers_book; it never changes."""

    def __init__(self, prime, few, many, told):
        _, size, sums = powers_book(prime, few, many, told)
        super().__init__(prime, size, *sums)
        self._numbers = powers_places(prime, few, many)
        self._used = powers_used(few, told)
        self._groups = powers_groups(few, many)

    @property
    def numbers_now(self):
        """The numbers of the places."""
        return self._numbers

    @property
    def used_now(self):
        """The exponents of the powers used."""
        return self._used

    @property
    def groups_now(self):
        """The classes of the places."""
        return self._groups

    @property
    def least_now(self):
        """By how many places unlike words differ at least."""
        return len(self._numbers) - self._used[-1]

    def noughts_paper(self):
        """A paper of noughts of this book."""
        return ("noughts", self._numbers, self._used)

    def word_by(self, numbers):
        """The word that is the sum of the powers used, each times its number."""
        prime, size, _ = self._book
        want(is_numbers(numbers, len(self._used), prime), "numbers")
        word = (0,) * size
        for number, row in zip(numbers, power_rows(prime, self._numbers, self._used)):
            word = plus_scaled(prime, word, number, row)
        return word

    def numbers_of(self, signs):
        """The numbers by which this word comes of the powers used."""
        want(is_word_of(self._book, signs), "signs")
        prime, size, _ = self._book
        many = len(self._used)
        # Behind each power stands which one it is: what is taken off the signs, to make
        # them 0, stands behind them.
        rows = [
            (*row, *unit_row(many, at))
            for at, row in enumerate(power_rows(prime, self._numbers, self._used))
        ]
        rest = cleared(prime, (*signs, *(0,) * many), reduced_rows(prime, rows))
        return tuple([-number % prime for number in rest[size:]])

"""Books as objects, and those in which all signs of a word are the same."""

from mendfew.bookchanges import renumbered, side_by_side, with_sum, without_place
from mendfew.bookchecker import is_word, lets_book
from mendfew.bookforms import is_size, is_sum_like
from mendfew.bookparts import base_sums, base_words, keeps, told_on, told_signs
from mendfew.bookreadings import book_read
from mendfew.booktexts import book_text
from mendfew.kinds import is_number, is_prime
from mendfew.lots import all_places
from mendfew.usable import want


class Book:
    """A book that never changes; what is made of it is a new one."""

    def __init__(self, prime, size, *sums):
        book = (prime, size, sums)
        lets_book(book)
        self._book = book
        self._sums = sums
        self._places = all_places(size)

    @classmethod
    def of(cls, book):
        """The Book of this book."""
        lets_book(book)
        prime, size, sums = book
        # Not cls: a derived class may be made of other things than a book.
        return Book(prime, size, *sums)

    @classmethod
    def read(cls, text):
        """The Book that the text writes."""
        return Book.of(book_read(text))

    @property
    def book_now(self):
        """The book."""
        return self._book

    @property
    def told_now(self):
        """How many signs the book tells."""
        return told_signs(self._book)

    @property
    def words_now(self):
        """The base words of the book."""
        return base_words(self._book)

    @property
    def sums_now(self):
        """The base sums of the book."""
        return base_sums(self._book)

    def told_on(self, lot):
        """How many signs the book tells on the lot."""
        return told_on(self._book, lot)

    def keeps(self, numbers):
        """Whether all words of the book keep this sum."""
        return keeps(self._book, numbers)

    def renumbered(self, places):
        """The Book whose new place k is the old place places[k]."""
        return Book.of(renumbered(self._book, places))

    def __getitem__(self, at):
        want(is_number(at) and at < len(self._sums), "k")
        return self._sums[at]

    def __call__(self, signs):
        return is_word(self._book, signs)

    def __contains__(self, x):
        return is_sum_like(self._book, x) and x in self._sums

    def __len__(self):
        return len(self._places)

    def __iter__(self):
        return iter(self._sums)

    def __str__(self):
        return str(book_text(self._book))

    def __eq__(self, other):
        return isinstance(other, Book) and self._book == other._book

    def __add__(self, other):
        return Book.of(with_sum(self._book, other))

    def __sub__(self, other):
        return Book.of(without_place(self._book, other))

    def __and__(self, other):
        want(isinstance(other, Book), "other")
        return Book.of(side_by_side(self._book, other._book))


class Repeated(Book):
    """The book with as many places in which all signs of a word are the same."""

    def __init__(self, prime, size):
        want(is_prime(prime), "prime")
        want(is_size(size), "size")
        sums = [same_sign_sum(prime, size, place) for place in range(1, size)]
        super().__init__(prime, size, *sums)

    def word_of(self, sign):
        """The word with this sign."""
        prime, size, _ = self._book
        want(is_number(sign) and sign < prime, "sign")
        return (sign,) * size


def same_sign_sum(prime, size, place):
    """The sum that says that the sign at the place is the one at place 0."""
    return tuple([1 if at == 0 else (prime - 1 if at == place else 0) for at in range(size)])

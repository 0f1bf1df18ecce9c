import unittest
from itertools import product

from helpers import (
    ALONE, BIG, EVEN, FOUR, FREE, LATE, NOT_BOOKS, ODD, PAIRS, Raising, small_books, words_by_all)
from mendfew.bookchanges import renumbered, side_by_side, with_sum, without_place
from mendfew.bookchecker import is_book, lets_book
from mendfew.bookclasses import Book, Repeated
from mendfew.bookparts import base_sums, base_words, keeps, told_on, told_signs
from mendfew.booktexts import book_text
from mendfew.errors import InvalidPaper


class Derived(Book):
    """A class of a caller, below Book."""


def made(book):
    """The Book of it, made in each of the ways there are."""
    prime, size, sums = book
    return [
        Book(prime, size, *sums), Book.of(book), Book.read(book_text(book)), Derived(prime, size, *sums),
        Book.of(book=book), Book.read(text=book_text(book))]


class BookTest(Raising, unittest.TestCase):
    def refused(self, word, at, call, *args, **more):
        self.raises('InvalidPaper', {'word': word, 'at': at}, call, *args, **more)

    def test_examples(self):
        shelf, same = Book(2, 4, (1, 1, 0, 0), (0, 0, 1, 1)), Repeated(3, 3)
        self.same(
            [shelf.told_now, shelf[1], shelf((1, 1, 1, 1)), (1, 1, 1, 1) in shelf, len(shelf),
             shelf.told_on((0, 1)), shelf == Book.of(PAIRS), (shelf - 0).book_now],
            [2, (0, 0, 1, 1), True, False, 4, 1, True, (2, 3, ((0, 1, 1),))])
        self.same(
            [(shelf + (1, 0, 1, 0)).words_now, str(Book(2, 2) & Book(2, 1)), list(same),
             same.words_now, same.word_of(2)],
            [((1, 1, 1, 1),), 'book 2 3', [(1, 2, 0), (1, 0, 2)], ((1, 1, 1),), (2, 2, 2)])
        self.not_usable('k', shelf.__getitem__, 2)
        with self.assertRaises(ValueError):
            shelf[2]

    def test_what_a_book_tells(self):
        for book in small_books():
            words = words_by_all(book)
            for shelf in made(book):
                self.same(shelf.book_now, book)
                self.same(shelf.told_now, told_signs(book))
                self.same(shelf.words_now, base_words(book))
                self.same(shelf.sums_now, base_sums(book))
                self.same(len(shelf), book[1])
                self.same(list(shelf), list(book[2]))
                self.same([numbers for numbers in shelf], list(book[2]))
                self.same([shelf[k] for k in range(len(book[2]))], list(book[2]))
                self.same(str(shelf), book_text(book))
                self.same(shelf.told_on(tuple(range(book[1]))), told_signs(book))
                self.same(shelf(words[-1]), True)
                for numbers in book[2]:
                    self.same(shelf.keeps(numbers), True)
                    self.same(numbers in shelf, True)

    def test_made_by_name(self):
        self.same(Book(size=3, prime=2).book_now, (2, 3, ()))
        self.same(Book(prime=2, size=3).book_now, (2, 3, ()))
        self.same(Repeated(size=3, prime=2).book_now, (2, 3, ((1, 1, 0), (1, 0, 1))))

    def test_errors_of_making(self):
        for book in NOT_BOOKS:
            with self.assertRaises(InvalidPaper) as caught:
                lets_book(book)
            told = caught.exception
            self.refused(told.word, told.at, Book.of, book)
            self.refused(told.word, told.at, Book.of, book=book)
            if told.word not in ('shape', 'sums'):
                if isinstance(book[2], tuple):
                    self.refused(told.word, told.at, Book, book[0], book[1], *book[2])
        self.refused('prime', -1, Book, 4, 101, None)
        self.refused('prime', -1, Book, prime=True, size=2)
        self.refused('size', -1, Book, 2, 101, None)
        self.refused('size', -1, Book, 2, True)
        self.refused('sum', 0, Book, 2, 2, [1, 1])
        self.refused('sum', 1, Book, 2, 2, (1, 1), (True, 1), (0, 0))
        self.refused('nought', 1, Book, 2, 2, (1, 1), (0, 0), None)
        self.refused('sums', -1, Book.of, (2, 2, [(1, 1)]))
        self.refused('shape', -1, Book.of, Book(2, 2))
        for text in (None, 0, (), ['book 2 2'], Book(2, 2)):
            self.not_usable('text', Book.read, text)
        self.raises('InvalidText', {'line': 1, 'field': 0}, Book.read, 'book 2 2\nsum 0 0')

    def test_items(self):
        for shelf in made(PAIRS):
            for k in ODD + [2, 3, -2, (0,), slice(0, 1), '0', Book(2, 2)]:
                self.not_usable('k', lambda: shelf[k])
        self.not_usable('k', lambda: Book(2, 2)[0])
        self.not_usable('k', lambda: Repeated(2, 1)[0])
        self.same(Repeated(5, 3)[1], (1, 0, 4))

    def test_words_by_call(self):
        for book in (EVEN, PAIRS, FREE, FOUR, ALONE):
            shelf, words = Book.of(book), words_by_all(book)
            for signs in product(range(book[0] + 1), repeat=book[1]):
                self.assertIs(shelf(signs), signs in words)
        for thing in ODD + [(), (1, 1), [0, 0, 0], (False, 0, 0), Book.of(EVEN)]:
            self.assertIs(Book.of(EVEN)(thing), False)
        self.assertIs(Book.of(EVEN)(signs=(0, 0, 0)), True)

    def test_sums_in_it(self):
        shelf = Book.of((3, 3, ((1, 1, 1), (2, 0, 1))))
        for numbers in product(range(3), repeat=3):
            self.assertIs(numbers in shelf, numbers in ((1, 1, 1), (2, 0, 1)))
        for thing in ODD + [0, (), [1, 1, 1], (1, 1, True), (2, False, 1), (True, True, True), '111', shelf]:
            self.assertIs(thing in shelf, False)
            self.assertIs(thing not in shelf, True)

    def test_told_on_and_keeps(self):
        for book in (EVEN, PAIRS, FREE, FOUR):
            shelf = Book.of(book)
            for lot in ((), (0,), (0, 1), (1,)):
                self.same(shelf.told_on(lot=lot), told_on(book, lot))
            for numbers in list(product(range(book[0]), repeat=book[1]))[1:30]:
                self.same(shelf.keeps(numbers=numbers), keeps(book, numbers))
        for lot in ODD + [0, (1, 0), (0, 3), [0]]:
            self.not_usable('lot', Book.of(EVEN).told_on, lot)
        for numbers in ODD + [0, (0, 0, 0), (1, 1), (1, 1, 3), [1, 1, 1]]:
            self.not_usable('numbers', Book.of(EVEN).keeps, numbers)

    def test_equal(self):
        same = (2, 3, ((1, 1, 0), (1, 0, 1)))
        for one in made(same) + [Repeated(2, 3)]:
            for other in made(same) + [Repeated(2, 3)]:
                self.assertIs(one == other, True)
                self.assertIs(one != other, False)
        unlike = [Book(2, 3), Book(2, 3, (1, 0, 1), (1, 1, 0)), Book(2, 3, (1, 1, 0)), Book(3, 3),
                  Repeated(2, 4), Repeated(3, 3), same, book_text(same), None, True, 2, [same], ((1, 1, 0),)]
        for one in made(same) + [Repeated(2, 3)]:
            for other in unlike:
                self.assertIs(one == other, False)
                self.assertIs(other == one, False)
                self.assertIs(one != other, True)

    def test_new_books(self):
        for book in (PAIRS, EVEN, FREE, (2, 3, ((1, 1, 0), (1, 0, 1)))):
            for shelf in made(book) + ([Repeated(2, 3)] if book[2] and book[1] == 3 and book[0] == 2 else []):
                numbers = (1,) * book[1]
                order = tuple(reversed(range(book[1])))
                told = [
                    (shelf + numbers, with_sum(book, numbers)),
                    (shelf - 1, without_place(book, 1)),
                    (shelf & Book(book[0], 2, (1, 1)), side_by_side(book, (book[0], 2, ((1, 1),)))),
                    (shelf & Repeated(book[0], 2), side_by_side(book, Repeated(book[0], 2).book_now)),
                    (shelf & shelf, side_by_side(book, book)),
                    (shelf.renumbered(order), renumbered(book, order)),
                    (shelf.renumbered(places=order), renumbered(book, order)),
                ]
                for new, old in told:
                    self.assertIs(type(new), Book)
                    self.same(new.book_now, old)
                    self.assertTrue(is_book(new.book_now))
                self.same(shelf.book_now, book)

    def test_made_by_class_methods(self):
        self.assertIs(type(Book.of(PAIRS)), Book)
        self.assertIs(type(Book.read('book 2 2')), Book)

    def test_errors_of_new_books(self):
        for shelf in (Book.of(EVEN), Repeated(3, 3), Derived(3, 3)):
            for thing in ODD + [0, (0, 0, 0), (1, 1), (1, 1, 3), [1, 1, 1], shelf]:
                self.not_usable('numbers', lambda: shelf + thing)
            for thing in ODD + [3, (0,), '0', shelf]:
                self.not_usable('place', lambda: shelf - thing)
            for thing in ODD + [0, EVEN, FREE, Book.of(PAIRS), Book(3, 98), Repeated(2, 2)]:
                self.not_usable('other', lambda: shelf & thing)
            for thing in ODD + [0, (0, 1), (0, 1, 1), (0, 1, 3), [0, 1, 2], (0, True, 2)]:
                self.not_usable('places', shelf.renumbered, thing)
        self.not_usable('place', lambda: Book(2, 1) - 0)
        self.same((Book(2, 50) & Book(2, 50)).book_now, (2, 100, ()))

    def test_in_place_leaves_the_first(self):
        for first in (Book(2, 3, (1, 1, 0)), Repeated(2, 3), Derived(2, 3)):
            book, shelf = first.book_now, first
            shelf += (1, 1, 1)
            self.same(shelf.book_now, with_sum(book, (1, 1, 1)))
            shelf = first
            shelf -= 0
            self.same(shelf.book_now, without_place(book, 0))
            shelf = first
            shelf &= Book(2, 1)
            self.same(shelf.book_now, side_by_side(book, (2, 1, ())))
            self.assertIs(type(shelf), Book)
            self.same(first.book_now, book)

    def test_never_changes(self):
        for shelf in made(PAIRS) + [Repeated(2, 3)]:
            book = shelf.book_now
            for name in ('book_now', 'told_now', 'words_now', 'sums_now'):
                with self.assertRaises(AttributeError):
                    setattr(shelf, name, ())
            with self.assertRaises(TypeError):
                shelf[0] = (1,)
            self.same(shelf.book_now, book)

    def test_defined_in_the_class_itself(self):
        for name in ('__init__', 'book_now', 'told_now', 'words_now', 'sums_now', '__getitem__', '__call__',
                     '__contains__', '__len__', '__iter__', '__str__', '__eq__', 'told_on', 'keeps', '__add__',
                     '__sub__', '__and__', 'renumbered', 'of', 'read'):
            self.assertIn(name, vars(Book))
        for name in ('book_now', 'told_now', 'words_now', 'sums_now'):
            self.assertIsInstance(vars(Book)[name], property)
        for name in ('of', 'read'):
            self.assertIsInstance(vars(Book)[name], classmethod)
        self.assertIn('word_of', vars(Repeated))
        self.assertEqual(Repeated.__bases__, (Book,))

    def test_large_books(self):
        shelf = Book(999983, 100, (999982,) * 100, tuple(range(100)))
        self.same(shelf.told_now, 98)
        self.same(Book.read(str(shelf)).book_now, shelf.book_now)
        self.same(Repeated(999983, 100).words_now, ((1,) * 100,))


class RepeatedTest(Raising, unittest.TestCase):
    def test_sums_and_words(self):
        for prime in (2, 3, 5, 7):
            for size in range(1, 5):
                same = Repeated(prime, size)
                self.same(same.book_now[:2], (prime, size))
                self.same(len(list(same)), size - 1)
                for k, numbers in enumerate(same):
                    told = [0] * size
                    told[0], told[k + 1] = 1, prime - 1
                    self.same(numbers, tuple(told))
                self.assertEqual(words_by_all(same.book_now), [(sign,) * size for sign in range(prime)])
                for sign in range(prime):
                    self.same(same.word_of(sign), (sign,) * size)
                    self.same(same.word_of(sign=sign), (sign,) * size)

    def test_wrong_values(self):
        for prime in ODD + [0, 1, 4, 9, 1000003, (2,), '2']:
            for size in (3, 0, None):
                self.not_usable('prime', Repeated, prime, size)
        for size in ODD + [0, 101, (2,), '2']:
            self.not_usable('size', Repeated, 3, size)
        for sign in ODD + [3, 4, (0,), '0', BIG]:
            self.not_usable('sign', Repeated(3, 2).word_of, sign)

    def test_a_book_like_others(self):
        same = Repeated(2, 4)
        self.assertIs((1, 1, 0, 0) in same, True)
        self.assertIs((0, 1, 1, 0) in same, False)
        self.assertIs(same.keeps((0, 1, 1, 0)), True)
        self.assertIs(same((1, 1, 1, 1)), True)
        self.same(str(same), 'book 2 4\nsum 1 1 0 0\nsum 1 0 1 0\nsum 1 0 0 1')
        self.assertIs(same == Book.read(str(same)), True)
        self.assertIs(same == Book.of(LATE), False)

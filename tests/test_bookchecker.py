import unittest
from copy import deepcopy
from itertools import product

from helpers import BIG, EVEN, FREE, NOT_BOOKS, ODD, PAIRS, Raising, small_books, words_by_all
from mendfew.bookchecker import is_book, is_lot, is_word, lets_book


class LetsBookTest(Raising, unittest.TestCase):
    def refused(self, thing, word, at):
        self.raises('InvalidPaper', {'word': word, 'at': at}, lets_book, thing)
        self.assertIs(is_book(thing), False)

    def test_examples(self):
        self.same(
            [lets_book(PAIRS), lets_book(FREE), is_lot(EVEN, (0, 2)), is_lot(EVEN, (2, 0)),
             is_word(EVEN, (1, 1, 1)), is_word(EVEN, (1, 1, 0))],
            [2, 0, True, False, True, False])
        self.refused((4, 2, ()), 'prime', -1)
        self.refused((3, 101, ()), 'size', -1)
        self.refused((3, 2, ((1, 1), (1, 3))), 'sum', 1)

    def test_books(self):
        books = small_books() + [
            (2, 100, ()), (999983, 100, ((999982,) * 100,)), (2, 1, ((1,),) * 5000),
            (999983, 1, ()), (5, 2, ((1, 2), (2, 4), (1, 2)))]
        for book in books:
            self.assertIs(is_book(book), True)
            self.same(lets_book(thing=book), len(book[2]))

    def test_shape(self):
        for thing in (None, True, 5, 'book 2 2', [], [2, 2, ()], (), (2,), (2, 2), (2, 2, (), ()),
                      [(2, 2, ())]):
            self.refused(thing, 'shape', -1)

    def test_prime(self):
        for prime in (0, 1, -2, 4, 9, 999999, 1000000, 1000003, BIG, True, None, '2', (2,), [2]):
            self.refused((prime, 2, ()), 'prime', -1)

    def test_size(self):
        for size in (0, -1, 101, BIG, True, False, None, '2', (2,), [2]):
            self.refused((2, size, ()), 'size', -1)

    def test_sums(self):
        for sums in (None, 0, True, '', 'sum', [], [(1, 1)]):
            self.refused((2, 2, sums), 'sums', -1)

    def test_sum(self):
        for row in (None, 1, 'ab', [1, 1], (), (1,), (1, 1, 1), (1, 3), (1, -1), (1, True),
                    (False, 1), (1, None), (1, '1'), (1, (1,)), (1, BIG)):
            self.refused((3, 2, (row,)), 'sum', 0)
            self.refused((3, 2, ((1, 2), (1, 2), row, (1, 2))), 'sum', 2)

    def test_nought(self):
        self.refused((3, 2, ((0, 0),)), 'nought', 0)
        self.refused((3, 2, ((1, 2), (0, 1), (0, 0))), 'nought', 2)
        self.refused((2, 1, ((1,), (0,))), 'nought', 1)

    def test_first_of_two_faults(self):
        self.refused([4, 2, ()], 'shape', -1)
        self.refused((4, 2, (), ()), 'shape', -1)
        self.refused((4, 0, ()), 'prime', -1)
        self.refused((4, 2, None), 'prime', -1)
        self.refused((2, 0, []), 'size', -1)
        self.refused((2, 101, ((0,),)), 'size', -1)
        self.refused((2, 2, [(0, 0)]), 'sums', -1)
        self.refused((3, 2, ((0, 0), (1, 3))), 'nought', 0)
        self.refused((3, 2, ((1, 3), (0, 0))), 'sum', 0)
        self.refused((3, 2, ((0, 0, 0),)), 'sum', 0)
        self.refused((3, 2, ((1, 1), (0, 0), (0, 0))), 'nought', 1)
        self.refused((3, 2, ((False, False),)), 'sum', 0)

    def test_any_value(self):
        for thing in NOT_BOOKS:
            self.assertIs(is_book(thing=thing), False)
            with self.assertRaises(ValueError):
                lets_book(thing)

    def test_handed_in_stays(self):
        for thing in ([2, 2, [[1, 1]]], (2, 2, [[1, 1]]), (2, 2, ([1, 1],))):
            before = deepcopy(thing)
            self.assertIs(is_book(thing), False)
            self.assertEqual(thing, before)


class LotsAndWordsTest(Raising, unittest.TestCase):
    def test_lots_of_a_small_book(self):
        for many in range(5):
            for thing in product(range(-1, 5), repeat=many):
                told = list(thing) == sorted(set(thing)) and set(thing) <= {0, 1, 2, 3}
                self.assertIs(is_lot(PAIRS, thing), told)

    def test_values_that_are_no_lots(self):
        for thing in ODD + [[0, 1], (0, True), (False, 1), (0, '1'), (0, (1,)), (0, BIG), 0]:
            self.assertIs(is_lot(PAIRS, thing), False)
        self.assertIs(is_lot(FREE, ()), True)
        self.assertIs(is_lot((2, 100, ()), tuple(range(100))), True)
        self.assertIs(is_lot((2, 100, ()), tuple(range(1, 101))), False)

    def test_words_against_all(self):
        for book in small_books():
            words = words_by_all(book)
            for thing in product(range(book[0]), repeat=book[1]):
                self.assertIs(is_word(book, thing), thing in words)

    def test_values_that_are_no_words(self):
        for thing in ODD + [(), (1, 1), (0, 0, 0, 0), [0, 0, 0], (3, 0, 0), (0, 0, False), (-1, 1, 0),
                            (True, True, True), (1, 1, 1.5), '000']:
            self.assertIs(is_word(EVEN, thing), False)
        self.assertIs(is_word(EVEN, (0, 0, 0)), True)
        self.assertIs(is_word((2, 1, ()), (True,)), False)

    def test_large_books(self):
        book = (999983, 100, ((1,) * 100, (2,) * 100))
        self.assertIs(is_word(book, (999982, 1) * 50), True)
        self.assertIs(is_word(book, (999982, 2) * 50), False)

    def test_by_name_in_any_order(self):
        self.assertIs(is_lot(thing=(0, 2), book=EVEN), True)
        self.assertIs(is_word(thing=(1, 1, 1), book=EVEN), True)

    def test_no_book(self):
        for book in NOT_BOOKS:
            self.not_usable('book', is_lot, book, ())
            self.not_usable('book', is_word, book, None)

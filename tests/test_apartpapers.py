import unittest
from random import Random

from faults import Small, apart_fault
from helpers import (
    ALONE, EVEN, FOUR, FREE, NOT_BOOKS, PAIRS, Raising, by_powers, few_places, random_book, small_books)
from mendfew.apartchecker import lets_apart
from mendfew.apartness import apart_of
from mendfew.apartpapers import apart_paper
from mendfew.bookchanges import side_by_side


class ApartPapersTest(Raising, unittest.TestCase):
    def plain(self, book, paper):
        """A paper of tuples, strings and integers that are no bools."""
        self.assertIs(type(paper), tuple)
        if apart_of(book) is None:
            self.same(paper, ('alone',))
            return
        self.assertEqual(len(paper), 4)
        self.assertEqual(paper[0], 'pair')
        self.assertIs(type(paper[3]), tuple)
        for row in (*paper[1:3], *paper[3]):
            self.assertIs(type(row), tuple)
            self.assertTrue(all(type(number) is int for number in row))

    def test_all_books_of_few_places(self):
        for book in few_places() + small_books(most_words=250, each=4):
            paper = apart_paper(book)
            self.plain(book, paper)
            self.assertIsNone(apart_fault(Small(book), paper))

    def test_kinds_of_books(self):
        for book in (EVEN, PAIRS, FREE, FOUR, ALONE, (2, 1, ()), (13, 10, ()), (3, 2, ((1, 1), (1, 2)))):
            paper = apart_paper(book)
            self.plain(book, paper)
            self.same(lets_apart(book, paper), apart_of(book))
        self.same(apart_paper(ALONE), ('alone',))

    def test_ten_places_and_more(self):
        chance = Random(34)
        books = [random_book(chance, prime, 10, many) for prime in (2, 3, 7, 13) for many in (1, 4, 6)]
        books += [by_powers(13, 10, told) for told in (1, 2, 5, 9, 10)] + [by_powers(13, 12, 6)]
        books.append(side_by_side(by_powers(13, 6, 3), (13, 4, ((1, 1, 0, 0), (0, 0, 0, 1)))))
        for book in books:
            paper = apart_paper(book)
            self.plain(book, paper)
            self.same(lets_apart(book, paper), apart_of(book))

    def test_wrong_values(self):
        for book in NOT_BOOKS:
            self.not_usable('book', apart_paper, book)

    def test_by_name(self):
        self.same(lets_apart(EVEN, apart_paper(book=EVEN)), 2)

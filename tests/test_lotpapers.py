import unittest
from random import Random

from helpers import (
    EVEN, FOUR, NOT_BOOKS, PAIRS, Raising, all_lots, by_powers, few_places, random_book, small_books)
from mendfew.bookchecker import is_word
from mendfew.bookparts import told_signs
from mendfew.fewness import few_of
from mendfew.lotpapers import lot_paper
from mendfew.price import price_of
from test_price import NO_PRICE, ROW


class LotPapersTest(Raising, unittest.TestCase):
    def keeps_all(self, book, paper):
        """What [48] says of a paper of the price."""
        price = price_of(book)
        if price is None:
            self.assertIsNone(paper)
            return
        self.assertIs(type(paper), tuple)
        self.assertEqual(len(paper), 3)
        word, lot, signs = paper
        self.same(word, 'price')
        for row in (lot, signs):
            self.assertIs(type(row), tuple)
            self.assertTrue(all(type(number) is int for number in row))
        self.assertIn(lot, all_lots(book[1]))
        told, few = told_signs(book), few_of(book)
        self.assertGreaterEqual(len(lot), told - 2 + -(-told // few))
        self.assertTrue(is_word(book, signs))
        self.assertTrue(any(signs))
        self.assertEqual([signs[place] for place in lot], [0] * len(lot))

    def test_books(self):
        chance = Random(60)
        large = [random_book(chance, prime, 10, many) for prime in (2, 3, 7, 13) for many in (2, 4, 6)]
        large += [by_powers(13, 10, told) for told in (1, 5, 9)] + [by_powers(13, 12, 6)]
        for book in few_places() + small_books(most_words=3000, each=4) + large + [EVEN, FOUR, PAIRS, ROW]:
            self.keeps_all(book, lot_paper(book))
        self.assertIsNotNone(lot_paper(ROW))
        self.assertIsNotNone(lot_paper(by_powers(13, 10, 1)))

    def test_books_without_a_price(self):
        for book in NO_PRICE:
            self.same(lot_paper(book), None)

    def test_wrong_values(self):
        for book in NOT_BOOKS:
            self.not_usable('book', lot_paper, book)

    def test_by_name(self):
        self.keeps_all(EVEN, lot_paper(book=EVEN))

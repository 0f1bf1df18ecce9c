import unittest
from random import Random

from faults import Small
from helpers import (
    ALONE, EVEN, FOUR, FREE, NOT_BOOKS, PAIRS, Raising, all_lots, by_powers, few_places, random_book,
    small_books)
from mendfew.apartness import apart_of
from mendfew.bookchanges import side_by_side
from mendfew.bookparts import told_on, told_signs
from mendfew.fewness import few_of
from mendfew.price import few_lot, is_best, price_of

ROW = (2, 5, ((1, 1, 1, 0, 0), (0, 0, 1, 1, 1)))
#: the first place is told by nothing; all signs are 0
NO_PRICE = [FREE, (2, 3, ((0, 1, 1),)), (13, 10, ()), (2, 1, ()), ALONE, (3, 2, ((1, 1), (1, 2)))]


def price_by_all(book):
    """The price and the least number of places of a lot of few_lot, by all words and sums."""
    small = Small(book)
    fewest = [small.fewest(place) for place in range(book[1])]
    if small.told == 0 or None in fewest:
        return (None, None)
    few = max([1, *fewest])
    up = small.told // few + (1 if small.told % few else 0)
    return (book[1] - small.told - up + 2, small.told - 2 + up)


class PriceTest(Raising, unittest.TestCase):
    def test_examples(self):
        self.same(
            [price_of(EVEN), price_of(PAIRS), price_of(FREE), len(few_lot(PAIRS)) >= 2,
             told_on(PAIRS, few_lot(PAIRS)), few_lot(FREE)],
            [2, 2, None, True, 1, None])
        self.same(
            [is_best(EVEN), is_best(PAIRS), is_best(FREE), price_of(ROW), is_best(ROW)],
            [True, True, False, 2, True])

    def shows(self, book, least):
        lot = few_lot(book)
        self.assertIn(lot, all_lots(book[1]))
        self.assertIs(type(lot), tuple)
        self.assertTrue(all(type(place) is int for place in lot))
        self.assertGreaterEqual(len(lot), least)
        self.assertLess(told_on(book, lot), told_signs(book))

    def test_against_all_words_and_sums(self):
        for book in few_places() + small_books(most_words=700, each=4) + [ROW]:
            price, least = price_by_all(book)
            self.same(price_of(book), price)
            if price is None:
                self.same([few_lot(book), is_best(book)], [None, False])
            else:
                self.shows(book, least)
                self.same(is_best(book), Small(book).apart() == price)

    def test_books_without_a_price(self):
        for book in NO_PRICE:
            self.same([price_of(book), few_lot(book), is_best(book)], [None, None, False])

    def test_rounded_up(self):
        for size in range(3, 11):
            for told in range(1, size):
                book = by_powers(13, size, told)
                # Each place is told by all told others: q is 1.
                self.same(price_of(book), size - told + 1)
                self.same(is_best(book), True)
                self.shows(book, told - 1)
        block = (13, 4, ((1, 1, 1, 1),))
        two = side_by_side(block, block)
        self.same([told_signs(two), few_of(two), price_of(two), is_best(two)], [6, 3, 2, True])
        lone = side_by_side(two, (13, 2, ((1, 12),)))
        # Seven signs, by three others each: q is 3.
        self.same([told_signs(lone), few_of(lone), price_of(lone), is_best(lone)], [7, 3, 2, True])
        self.shows(lone, 8)

    def test_not_best(self):
        book = side_by_side((5, 4, ((1, 1, 1, 1), (1, 2, 3, 4))), (5, 2, ((1, 1),)))
        self.same([told_signs(book), few_of(book), price_of(book), apart_of(book)], [3, 2, 3, 2])
        self.same(is_best(book), False)
        self.shows(book, 3)
        wide = (2, 6, ((1, 1, 0, 0, 0, 0), (1, 0, 1, 0, 0, 0), (0, 0, 0, 1, 1, 0), (0, 0, 0, 1, 0, 1)))
        self.same([price_of(wide), apart_of(wide), is_best(wide)], [4, 3, False])

    def test_places_that_are_always_nought(self):
        book = (3, 4, ((1, 1, 0, 0), (0, 0, 1, 0), (0, 0, 0, 2)))
        self.same([price_of(book), apart_of(book), is_best(book)], [4, 2, False])
        self.shows(book, 0)
        self.same(price_of((2, 3, ((1, 1, 0), (0, 0, 1)))), 3)

    def test_twelve_places(self):
        book = by_powers(13, 12, 6)
        self.same([price_of(book), is_best(book)], [7, True])
        self.shows(book, 5)

    def test_wrong_values(self):
        for call in (price_of, few_lot, is_best):
            for book in NOT_BOOKS:
                self.not_usable('book', call, book)

    def test_by_name(self):
        self.same([price_of(book=EVEN), is_best(book=EVEN)], [2, True])
        self.assertEqual(told_on(PAIRS, few_lot(book=PAIRS)), 1)


class ConsequencesTest(unittest.TestCase):
    def test_the_apart_is_at_most_the_price(self):
        chance = Random(59)
        books = [random_book(chance, prime, 10, many) for prime in (2, 3, 7, 13) for many in (2, 4, 5, 6)]
        for book in few_places() + small_books() + books:
            price = price_of(book)
            if price is not None:
                told, few = told_signs(book), few_of(book)
                self.assertLessEqual(apart_of(book), price)
                self.assertGreaterEqual(apart_of(book), 2)
                self.assertGreaterEqual(book[1], told + -(-told // few))

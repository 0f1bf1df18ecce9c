import unittest

from helpers import EVEN, FREE, NOT_BOOKS, ODD, PAIRS, Raising, small_books, words_by_all
from mendfew.booktexts import book_text, lot_text, signs_text


class BookTextsTest(Raising, unittest.TestCase):
    def test_examples(self):
        self.same(
            [book_text(EVEN), lot_text(EVEN, ()), signs_text(EVEN, (0, 1, 2))],
            ['book 3 3\nsum 1 1 1', '-', '0 1 2'])

    def test_books(self):
        self.same(book_text(FREE), 'book 2 2')
        self.same(book_text((2, 1, ())), 'book 2 1')
        self.same(book_text(PAIRS), 'book 2 4\nsum 1 1 0 0\nsum 0 0 1 1')
        self.same(
            book_text((999983, 100, ((999982,) * 100,))), 'book 999983 100\nsum' + ' 999982' * 100)

    def test_lots_and_signs(self):
        self.same(lot_text(PAIRS, (0, 3)), '0 3')
        self.same(lot_text(PAIRS, (2,)), '2')
        self.same(lot_text((2, 100, ()), tuple(range(100))), ' '.join(map(str, range(100))))
        self.same(signs_text((2, 1, ()), (0,)), '0')
        for book in small_books():
            for word in words_by_all(book)[:20]:
                self.same(signs_text(book, word), ' '.join(map(str, word)))

    def test_wrong_values(self):
        for lot in ODD + [(1, 0), (0, 0), (0, 3), [0], 0]:
            self.not_usable('lot', lot_text, EVEN, lot)
        for signs in ODD + [(), (1, 1, 0), (1, 1), (0, 0, 3), [0, 0, 0], 0]:
            self.not_usable('signs', signs_text, EVEN, signs)
        for book in NOT_BOOKS:
            self.not_usable('book', book_text, book)
            self.not_usable('book', lot_text, book, ())
            self.not_usable('book', signs_text, book, ())

    def test_by_name_in_any_order(self):
        self.same(book_text(book=FREE), 'book 2 2')
        self.same(lot_text(lot=(0, 1), book=FREE), '0 1')
        self.same(signs_text(signs=(0, 1), book=FREE), '0 1')

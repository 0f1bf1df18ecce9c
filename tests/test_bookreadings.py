import unittest
from itertools import combinations

from helpers import (
    BIG, EVEN, FREE, NOT_BOOKS, ODD, PAIRS, Raising, small_books, words_by_all)
from mendfew.bookreadings import book_read, lot_read, signs_read
from mendfew.booktexts import book_text, lot_text, signs_text

SIXTY = '1' * 60
WIDE = (999983, 100, ((999982,) * 100, (1,) + (0,) * 99))


class ReadingTest(Raising, unittest.TestCase):
    def impossible(self, line, field, call, *args):
        self.raises('InvalidText', {'line': line, 'field': field}, call, *args)

    def book_at(self, line, field, text):
        self.impossible(line, field, book_read, text)

    def lot_at(self, field, text, book=PAIRS):
        self.impossible(0, field, lot_read, book, text)

    def signs_at(self, field, text, book=EVEN):
        self.impossible(0, field, signs_read, book, text)

    def test_examples(self):
        self.same(
            [book_text(EVEN), lot_text(EVEN, ()), signs_text(EVEN, (0, 1, 2)), book_read('book 2 1'),
             lot_read(PAIRS, '0 3'), signs_read(PAIRS, '1 1 0 0')],
            ['book 3 3\nsum 1 1 1', '-', '0 1 2', (2, 1, ()), (0, 3), (1, 1, 0, 0)])
        self.book_at(1, 2, 'book 3 2\nsum 1 3')
        self.signs_at(0, '1 1 0')

    def test_what_is_written_is_read(self):
        for book in small_books() + [WIDE, (2, 100, ())]:
            self.same(book_read(book_text(book)), book)
        for book in small_books():
            for word in words_by_all(book)[:50]:
                self.same(signs_read(book, signs_text(book, word)), word)
            for many in range(book[1] + 1):
                for lot in combinations(range(book[1]), many):
                    self.same(lot_read(book, lot_text(book, lot)), lot)
        lot = tuple(range(100))
        self.same(lot_read(WIDE, lot_text(WIDE, lot)), lot)

    def test_first_line_of_a_book(self):
        for text in ('', ' ', '  ', 'boo', 'books 2 2', 'Book 2 2', ' book 2 2', 'sum 1 1', '2 2', '-',
                     '\nbook 2 2', 'book\t2 2', 'book', 'book '):
            self.book_at(0, 1 if text in ('book', 'book ') else 0, text)
        for word in ('4', '0', '1', '-2', '+2', '02', '2.', 'x', '', 'two', '1000000', '1000003', SIXTY,
                     SIXTY + '1', '2_0', str(BIG), '-'):
            for rest in ('', ' ', ' 2', ' 0', ' 2 2', '\nsum 1'):
                self.book_at(0, 1, f'book {word}{rest}')
        self.book_at(0, 2, 'book 2')
        for word in ('0', '101', '-1', '01', '00', 'x', '', '1.', SIXTY, SIXTY + '1', '1_0', '+1'):
            for rest in ('', ' ', ' 2', '\nsum 1'):
                self.book_at(0, 2, f'book 2 {word}{rest}')
        for rest in (' ', ' 1', '  ', ' sum 1 1', ' x y'):
            self.book_at(0, 3, f'book 2 2{rest}')
        self.book_at(0, 1, 'book  2 2')
        self.book_at(0, 2, 'book 2  2')

    def test_lines_of_sums(self):
        self.book_at(1, 0, 'book 2 2\n')
        self.book_at(1, 0, 'book 2 2\n\nsum 1 1')
        self.book_at(2, 0, 'book 2 2\nsum 1 1\n')
        for text in ('x', ' sum 1 1', 'Sum 1 1', 'sums 1 1', 'book 2 2', '1 1', ' ', '-', 'signs 1 1'):
            self.book_at(1, 0, f'book 2 2\n{text}')
            self.book_at(3, 0, f'book 2 2\nsum 1 1\nsum 1 0\n{text}\nx')
        for field, text in (
                (1, 'sum'), (1, 'sum '), (1, 'sum  1 1'), (1, 'sum 3 1'), (1, 'sum -1 1'), (1, 'sum 01 1'),
                (1, 'sum x y z'), (1, 'sum + 1'), (2, 'sum 1'), (2, 'sum 1 '), (2, 'sum 1  1'),
                (2, 'sum 0 3'), (2, f'sum 0 {SIXTY}'), (2, f'sum 0 {SIXTY}0'), (2, 'sum 0 00'), (3, 'sum 1 1 '),
                (3, 'sum 1 1 1'), (3, 'sum 1 1 x y'), (0, 'sum 0 0'), (3, 'sum 0 0 0'), (2, 'sum 0')):
            self.book_at(1, field, f'book 3 2\n{text}')
            self.book_at(2, field, f'book 3 2\nsum 2 2\n{text}\nsum 0 0')
        self.same(book_read('book 3 2\nsum 0 2\nsum 2 0'), (3, 2, ((0, 2), (2, 0))))

    def test_first_impossible_line(self):
        self.book_at(0, 1, 'book 4 2\nsum 0 0')
        self.book_at(1, 0, 'book 3 2\nsum 0 0\nsum 5 1')
        self.book_at(1, 1, 'book 3 2\nsum 5 1\nsum 0 0')

    def test_lots(self):
        self.same(lot_read(PAIRS, '-'), ())
        self.same(lot_read(PAIRS, '0 1 2 3'), (0, 1, 2, 3))
        self.same(lot_read(PAIRS, '2'), (2,))
        for field, text in (
                (0, ''), (0, ' '), (0, ' 0'), (0, '4'), (0, '-1'), (0, '--'), (0, '00'), (0, '01'), (0, 'x 1'),
                (0, SIXTY), (0, SIXTY + '0'), (0, '0\n'), (0, '0\n1'), (0, '-\n'), (0, '\n'), (0, '+1'),
                (1, '- '), (1, '- 0'), (1, '- -'), (1, '0 '), (1, '0  1'), (1, '0 -'), (1, '1 0'), (1, '1 1'),
                (1, '3 4'), (1, '0 01'), (1, '0 1\n'), (1, '0 1\n2 3'), (2, '0 1 '), (2, '0 1 1'), (2, '0 2 1'),
                (2, '0 1 -'), (4, '0 1 2 3 4'), (4, '0 1 2 3 '), (4, '0 1 2 3 3')):
            self.lot_at(field, text)

    def test_signs(self):
        self.same(signs_read(EVEN, '0 0 0'), (0, 0, 0))
        self.same(signs_read((2, 1, ()), '1'), (1,))
        for field, text in (
                (0, ''), (0, ' '), (0, ' 1 1 1'), (0, '3 0 0'), (0, '-'), (0, '-1 1 0'), (0, '01 1 1'), (0, '\n'),
                (0, '1\n1 1'), (1, '1'), (1, '1 '), (1, '1  1 1'), (1, '1 3'), (1, '1 x y z'), (2, '1 1'),
                (2, '1 1 '), (2, '1 1 3'), (2, '1 1 1\n'), (2, f'1 1 {SIXTY}'), (2, f'1 1 0{SIXTY}'),
                (3, '1 1 1 '), (3, '1 1 1 1'), (3, '1 1 0 0'), (3, '1 1 0 x y'), (0, '1 1 0'), (0, '0 0 1')):
            self.signs_at(field, text)

    def test_no_strings(self):
        for text in ODD + [0, 1, (), ('book 2 2',), ['book 2 2']]:
            if not isinstance(text, str):
                self.not_usable('text', book_read, text)
                self.not_usable('text', lot_read, EVEN, text)
                self.not_usable('text', signs_read, EVEN, text)

    def test_no_books(self):
        for book in NOT_BOOKS:
            for text in ('0', None):
                self.not_usable('book', lot_read, book, text)
                self.not_usable('book', signs_read, book, text)

    def test_other_strings_are_impossible(self):
        for text in ODD:
            if isinstance(text, str):
                self.book_at(0, 0, text)
                if text != '0 1':
                    self.lot_at(0, text)
                    self.signs_at(0, text)
        self.same(lot_read(FREE, '0 1'), (0, 1))
        self.same(signs_read(FREE, '0 1'), (0, 1))

    def test_by_name_in_any_order(self):
        self.same(book_read(text='book 2 2'), FREE)
        self.same(lot_read(text='1', book=FREE), (1,))
        self.same(signs_read(text='1 0', book=FREE), (1, 0))

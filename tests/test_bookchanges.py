import unittest
from itertools import permutations, product

from helpers import (
    EVEN, FREE, NOT_BOOKS, ODD, PAIRS, Raising, cut, small_books, sums_by_all, total, words_by_all)
from mendfew.bookchanges import (
    renumbered, side_by_side, with_nought, with_place, with_sum, without_place)
from mendfew.bookchecker import lets_book
from mendfew.bookparts import base_sums, base_words, keeps, told_signs

BOOKS = small_books(most_words=130)
HUNDRED = (5, 100, ((4,) * 100,))


class BookChangesTest(Raising, unittest.TestCase):
    def test_examples(self):
        self.same(
            [renumbered((2, 3, ((1, 1, 0),)), (1, 2, 0)), with_sum(FREE, (1, 1)),
             with_place(FREE, (1, 1)), with_place(EVEN, (0, 1, 2))],
            [(2, 3, ((1, 0, 1),)), (2, 2, ((1, 1),)), (2, 3, ((1, 1, 1),)),
             (3, 4, ((1, 1, 1, 0), (0, 1, 2, 2)))])
        self.same(
            [without_place(EVEN, 1), with_nought(EVEN, 1), without_place(PAIRS, 0),
             side_by_side(FREE, (2, 1, ((1,),)))],
            [(3, 2, ()), (3, 2, ((1, 1),)), (2, 3, ((0, 1, 1),)), (2, 3, ((0, 0, 1),))])
        self.not_usable('other', side_by_side, EVEN, FREE)

    def test_renumbered(self):
        for book in BOOKS:
            words = words_by_all(book)
            for order in list(permutations(range(book[1])))[:30]:
                new = renumbered(book, order)
                self.same(new[2], tuple(cut(numbers, order) for numbers in book[2]))
                self.assertEqual(words_by_all(new), sorted(cut(word, order) for word in words))
        self.same(renumbered(HUNDRED, tuple(range(99, -1, -1))), HUNDRED)

    def test_with_sum(self):
        for book in BOOKS:
            for numbers in list(product(range(book[0]), repeat=book[1]))[1:40]:
                new = with_sum(book, numbers)
                self.same(new, (book[0], book[1], book[2] + (numbers,)))

    def test_with_place(self):
        for book in BOOKS:
            prime, size, sums = book
            for numbers in list(product(range(prime), repeat=size))[:20]:
                new = with_place(book, numbers)
                self.same(new[:2], (prime, size + 1))
                self.same(new[2], tuple(row + (0,) for row in sums) + (numbers + (prime - 1,),))
                self.assertEqual(
                    words_by_all(new),
                    [word + (total(prime, numbers, word),) for word in words_by_all(book)])

    def test_with_place_at_the_end(self):
        self.same(with_place((2, 99, ()), (0,) * 99), (2, 100, ((0,) * 99 + (1,),)))
        for numbers in ((0,) * 100, None, (0,) * 99):
            self.not_usable('book', with_place, HUNDRED, numbers)

    def test_side_by_side(self):
        for one in BOOKS:
            for other in BOOKS[::5]:
                if one[0] != other[0]:
                    self.not_usable('other', side_by_side, one, other)
                    continue
                new = side_by_side(one, other)
                self.same(new[:2], (one[0], one[1] + other[1]))
                self.same(new[2], tuple(row + (0,) * other[1] for row in one[2])
                          + tuple((0,) * one[1] + row for row in other[2]))
                self.assertIn(lets_book(new), (len(one[2]) + len(other[2]),))

    def test_words_side_by_side(self):
        for one, other in ((EVEN, (3, 1, ())), (PAIRS, FREE), (FREE, (2, 1, ((1,),)))):
            words = [word + late for word in words_by_all(one) for late in words_by_all(other)]
            self.assertEqual(words_by_all(side_by_side(one, other)), words)

    def test_side_by_side_at_the_end(self):
        self.assertEqual(side_by_side((5, 50, ()), (5, 50, ())), (5, 100, ()))
        self.not_usable('other', side_by_side, (5, 50, ()), (5, 51, ()))
        self.not_usable('other', side_by_side, HUNDRED, (5, 1, ()))

    def test_places_less(self):
        for book in BOOKS:
            prime, size, _ = book
            if size == 1:
                continue
            for place in range(size):
                rest = tuple(at for at in range(size) if at != place)
                left, nought = without_place(book, place), with_nought(book, place)
                words = words_by_all(book)
                self.same(left[:2], (prime, size - 1))
                self.same(nought[:2], (prime, size - 1))
                self.assertEqual(words_by_all(left), sorted({cut(word, rest) for word in words}))
                self.assertEqual(
                    words_by_all(nought), sorted(cut(word, rest) for word in words if word[place] == 0))
                self.same(left[2], base_sums(left))
                self.same(nought[2], base_sums(nought))

    def test_places_less_of_large_books(self):
        self.same(without_place(HUNDRED, 99), (5, 99, ()))
        self.same(with_nought(HUNDRED, 0), (5, 99, ((1,) * 99,)))

    def test_one_place_alone(self):
        for change in (without_place, with_nought):
            self.not_usable('place', change, (2, 1, ()), 0)
            self.same(change((2, 2, ()), 0), (2, 1, ()))

    def test_wrong_places(self):
        for places in ODD + [(), (0, 1), (0, 1, 2, 3), (0, 1, 1), (0, 1, 3), (-1, 0, 1), [0, 1, 2],
                             (0, True, 2), (False, 1, 2), '012', (0, 1, '2'), 3]:
            self.not_usable('places', renumbered, EVEN, places)

    def test_wrong_numbers(self):
        for numbers in ODD + [(), (1, 1), (1, 1, 1, 1), (1, 1, 3), (-1, 1, 1), (True, 0, 0), [1, 1, 1], 1]:
            self.not_usable('numbers', with_sum, EVEN, numbers)
            self.not_usable('numbers', with_place, EVEN, numbers)
        self.not_usable('numbers', with_sum, EVEN, (0, 0, 0))
        self.same(with_place(EVEN, (0, 0, 0)), (3, 4, ((1, 1, 1, 0), (0, 0, 0, 2))))

    def test_wrong_others(self):
        for other in NOT_BOOKS:
            self.not_usable('other', side_by_side, EVEN, other)
            self.not_usable('one', side_by_side, other, None)

    def test_by_name_in_any_order(self):
        self.same(renumbered(places=(1, 0), book=FREE), FREE)
        self.same(with_sum(numbers=(1, 1), book=FREE), (2, 2, ((1, 1),)))
        self.same(with_place(numbers=(1, 1), book=FREE), (2, 3, ((1, 1, 1),)))
        self.same(side_by_side(other=(2, 1, ()), one=FREE), (2, 3, ()))
        self.same(without_place(place=1, book=EVEN), (3, 2, ()))
        self.same(with_nought(place=1, book=EVEN), (3, 2, ((1, 1),)))


class ConsequencesTest(unittest.TestCase):
    def test_with_sum(self):
        for book in BOOKS:
            sums = sums_by_all(book)
            for numbers in list(product(range(book[0]), repeat=book[1]))[1:60]:
                new = with_sum(book, numbers)
                self.assertEqual(base_words(new) == base_words(book), keeps(book, numbers))
                self.assertEqual(numbers in sums, keeps(book, numbers))
                self.assertEqual(told_signs(book) - told_signs(new), 0 if keeps(book, numbers) else 1)

    def test_with_place_and_without_it(self):
        for book in BOOKS:
            for numbers in list(product(range(book[0]), repeat=book[1]))[:20]:
                new = with_place(book, numbers)
                self.assertEqual(told_signs(new), told_signs(book))
                self.assertEqual(base_words(without_place(new, book[1])), base_words(book))

    def test_a_sign_less(self):
        for book in BOOKS:
            words = words_by_all(book)
            for place in range(book[1]):
                if book[1] == 1:
                    continue
                alone = any(word[place] and sum(map(bool, word)) == 1 for word in words)
                left = told_signs(book) - told_signs(without_place(book, place))
                self.assertEqual(left, 1 if alone else 0)
                nought = told_signs(book) - told_signs(with_nought(book, place))
                self.assertEqual(nought, 1 if any(word[place] for word in words) else 0)

    def test_side_by_side(self):
        for one in BOOKS:
            for other in BOOKS:
                if one[0] == other[0]:
                    told = told_signs(side_by_side(one, other))
                    self.assertEqual(told, told_signs(one) + told_signs(other))

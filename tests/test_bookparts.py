import unittest
from itertools import combinations, islice, product
from random import Random

from helpers import (
    ALONE, EVEN, FREE, PAIRS, Raising, cut, places, random_book, small_books, spanned, sums_by_all,
    told_by_count, total, words_by_all)
from mendfew.bookchecker import is_word
from mendfew.bookparts import all_words, base_sums, base_words, keeps, told_on, told_signs

LARGE = [
    (999983, 100, ((999982,) * 100, (1,) * 100, tuple(range(100)))),
    (2, 100, ()),
    (999983, 100, tuple((0,) * at + (at + 1,) + (7,) * (99 - at) for at in range(100))),
    random_book(Random(1), 999983, 100, 60),
    random_book(Random(2), 2, 100, 40),
    (2, 1, ((1,),) * 5000),
]


class BookPartsTest(Raising, unittest.TestCase):
    def test_examples(self):
        self.same(
            [told_signs(EVEN), told_on(PAIRS, (0, 1)), told_on(PAIRS, (0, 2)), keeps(EVEN, (2, 2, 2)),
             keeps(EVEN, (1, 1, 0))],
            [2, 1, 2, True, False])
        self.same(
            [base_words(EVEN), base_sums((5, 3, ((0, 2, 4), (3, 1, 0)))), base_sums(FREE),
             list(all_words(PAIRS))],
            [((1, 0, 2), (0, 1, 2)), ((1, 0, 1), (0, 1, 2)), (),
             [(0, 0, 0, 0), (0, 0, 1, 1), (1, 1, 0, 0), (1, 1, 1, 1)]])
        self.not_usable('numbers', keeps, EVEN, (0, 0, 0))

    def test_told_signs_against_all_words(self):
        for book in small_books():
            self.same(told_signs(book), told_by_count(book[0], len(words_by_all(book))))

    def test_told_on_against_all_words(self):
        for book in small_books():
            words = words_by_all(book)
            for many in range(book[1] + 1):
                for lot in combinations(range(book[1]), many):
                    told = told_by_count(book[0], len({cut(word, lot) for word in words}))
                    self.same(told_on(book, lot), told)
            self.same(told_on(book, ()), 0)

    def test_keeps_against_all_words(self):
        for book in small_books(most_words=130):
            sums = sums_by_all(book)
            for numbers in product(range(book[0]), repeat=book[1]):
                if any(numbers):
                    self.assertIs(keeps(book, numbers), numbers in sums)

    def reduced(self, prime, rows):
        firsts = [places(row)[0] for row in rows]
        self.assertEqual(firsts, sorted(set(firsts)))
        for row in rows:
            self.assertEqual(cut(row, firsts), tuple(int(row is other) for other in rows))
            self.assertTrue(all(type(number) is int and 0 <= number < prime for number in row))

    def test_base_words_against_all_words(self):
        for book in small_books():
            words = base_words(book)
            self.assertIs(type(words), tuple)
            self.reduced(book[0], words)
            self.assertEqual(len(words), told_signs(book))
            self.assertEqual(spanned(book[0], book[1], words), words_by_all(book))

    def test_base_sums_against_all_sums(self):
        for book in small_books(most_words=130):
            sums = base_sums(book)
            self.assertIs(type(sums), tuple)
            self.reduced(book[0], sums)
            self.assertEqual(len(sums), book[1] - told_signs(book))
            self.assertEqual(spanned(book[0], book[1], sums)[1:], sums_by_all(book))

    def test_all_words(self):
        for book in small_books():
            self.same(list(all_words(book)), words_by_all(book))
        self.same(list(all_words(ALONE)), [(0,)])
        self.same(list(all_words(FREE)), [(0, 0), (0, 1), (1, 0), (1, 1)])

    def test_all_words_come_one_by_one(self):
        first = list(islice(all_words((999983, 100, ((1,) * 100,))), 3))
        self.same(first, [(0,) * 100, (0,) * 98 + (1, 999982), (0,) * 98 + (2, 999981)])
        self.same(next(all_words((2, 100, ()))), (0,) * 100)

    def test_all_words_raises_when_the_first_is_asked_for(self):
        words = all_words(None)
        self.not_usable('book', next, words)
        self.not_usable('book', list, all_words(book=(4, 2, ())))

    def test_large_books(self):
        for book in LARGE:
            prime, size, sums = book
            words, base = base_words(book), base_sums(book)
            self.reduced(prime, words)
            self.reduced(prime, base)
            self.assertEqual(len(words), told_signs(book))
            self.assertEqual(len(words) + len(base), size)
            self.assertTrue(all(is_word(book, word) for word in words[::9]))
            self.assertTrue(all(keeps(book, numbers) for numbers in base[::9]))
            self.assertTrue(all(keeps((prime, size, base), numbers) for numbers in sums[:60:9]))
            self.assertEqual(told_on(book, tuple(range(size))), len(words))
        self.assertEqual([told_signs(book) for book in LARGE[:3]], [98, 100, 0])
        self.assertEqual(told_signs(LARGE[5]), 0)

    def test_multiples_change_nothing(self):
        one, other = (7, 3, ((1, 2, 3),)), (7, 3, ((2, 4, 6), (1, 2, 3), (3, 6, 2)))
        for told in (told_signs, base_words, base_sums):
            self.same(told(one), told(other))

    def test_by_name_in_any_order(self):
        self.same(told_signs(book=EVEN), 2)
        self.same(told_on(lot=(0, 1), book=PAIRS), 1)
        self.same(keeps(numbers=(2, 2, 2), book=EVEN), True)
        self.same(base_words(book=EVEN), ((1, 0, 2), (0, 1, 2)))
        self.same(base_sums(book=EVEN), ((1, 1, 1),))
        self.same(list(all_words(book=(2, 1, ()))), [(0,), (1,)])


class ConsequencesTest(unittest.TestCase):
    def test_told_by_the_words_alone(self):
        for book in small_books():
            prime, size, sums = book
            more = sums_by_all(book)[:40] if prime ** size < 130 else sums[::-1]
            mixed = (prime, size, (*more, *base_sums(book)))
            self.assertEqual(base_words(mixed), base_words(book))
            self.assertEqual(base_sums(mixed), base_sums(book))

    def test_words_are_told_at_the_first_places(self):
        for book in small_books():
            firsts = tuple(places(word)[0] for word in base_words(book))
            self.assertEqual(told_on(book, firsts), told_signs(book))
            words = list(all_words(book))
            self.assertEqual(len({cut(word, firsts) for word in words}), len(words))

    def test_bounds_of_told_on(self):
        for book in small_books():
            size, told = book[1], told_signs(book)
            for many in range(size + 1):
                for lot in combinations(range(size), many):
                    self.assertLessEqual(told_on(book, lot), min(many, told))
            self.assertEqual(told_on(book, tuple(range(size))), told)

    def test_sums_of_signs_come_to_nought(self):
        for book in small_books():
            for numbers in base_sums(book):
                for word in base_words(book):
                    self.assertEqual(total(book[0], numbers, word), 0)

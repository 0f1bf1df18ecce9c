import unittest
from itertools import product
from random import Random

from faults import Small
from helpers import (
    ALONE, BIG, EVEN, FOUR, FREE, NOT_BOOKS, ODD, PAIRS, Raising, all_lots, by_powers, random_book,
    small_books, words_by_all)
from mendfew.bookparts import base_words
from mendfew.losses import told_back
from mendfew.mending import filled


def without(word, lost):
    return tuple(None if place in lost else sign for place, sign in enumerate(word))


def some_word(chance, book):
    """Any word of a book that has too many of them to be gone through."""
    word = (0,) * book[1]
    for base in base_words(book):
        times = chance.randrange(book[0])
        word = tuple((sign + times * more) % book[0] for sign, more in zip(word, base))
    return word


class MendingTest(Raising, unittest.TestCase):
    def test_examples(self):
        self.same(
            [filled(EVEN, (1, None, 1)), filled(PAIRS, (None, None, None, 1)), filled(FREE, (None, 1)),
             filled(EVEN, (1, 1, 1))],
            [(1, 1, 1), (None, None, 1, 1), (None, 1), (1, 1, 1)])
        self.not_usable('signs', filled, PAIRS, (1, 0, None, 0))

    def test_all_signs_against_all_words(self):
        for book in small_books(most_words=150, each=3):
            small = Small(book)
            for signs in product([None, *range(book[0])], repeat=book[1]):
                fitting = [word for word in small.words
                           if all(sign in (None, word[place]) for place, sign in enumerate(signs))]
                if not fitting:
                    self.not_usable('signs', filled, book, signs)
                    continue
                back = small.told_back(tuple(place for place, sign in enumerate(signs) if sign is None))
                told = tuple(fitting[0][place] if place in back else sign for place, sign in enumerate(signs))
                self.same(filled(book, signs), told)
                for place in back:
                    self.assertEqual({word[place] for word in fitting}, {told[place]})

    def test_no_place_and_all_places(self):
        for book in (EVEN, PAIRS, FREE, FOUR, (5, 1, ())):
            self.same(filled(book, (None,) * book[1]), (None,) * book[1])
            for word in words_by_all(book):
                self.same(filled(book, word), word)
        self.same(filled(ALONE, (None,)), (0,))
        self.same(filled(ALONE, (0,)), (0,))
        self.same(filled((3, 3, ((0, 2, 0),)), (None, None, None)), (None, 0, None))
        self.not_usable('signs', filled, ALONE, (1,))

    def test_ten_places(self):
        chance = Random(42)
        books = [random_book(chance, prime, 10, many) for prime in (2, 3, 7, 13) for many in (0, 3, 6)]
        for book in books + [by_powers(13, 10, 5), by_powers(13, 12, 6)]:
            for _ in range(30):
                word = some_word(chance, book)
                lost = tuple(sorted(chance.sample(range(book[1]), chance.randrange(book[1] + 1))))
                back = told_back(book, lost)
                told = without(word, [place for place in lost if place not in back])
                self.same(filled(book, without(word, lost)), told)

    def test_signs_that_no_word_has(self):
        book = by_powers(13, 10, 5)
        word = some_word(Random(43), book)
        for place in range(10):
            spoiled = word[:place] + ((word[place] + 1) % 13,) + word[place + 1:]
            self.not_usable('signs', filled, book, spoiled)
            lost = [at for at in range(10) if at != place][:4]
            self.not_usable('signs', filled, book, without(spoiled, lost))
            lost = [at for at in range(10) if at != place][:5]
            self.assertEqual(filled(book, without(spoiled, lost)).count(None), 0)

    def test_wrong_values(self):
        for book in NOT_BOOKS:
            self.not_usable('book', filled, book, (1, None, 1))
            self.not_usable('book', filled, book, None)
        for signs in ODD + [0, (), (1, None), (1, None, 1, 1), (1, 1, 0), (1, 1, None, None), [1, None, 1],
                            (3, None, 1), (-1, None, 1), (BIG, None, None), (True, None, 1), (1, None, False),
                            (1, '1', 1), (1, None, '-'), (1, (None,), 1), ((), None, None)]:
            self.not_usable('signs', filled, EVEN, signs)

    def test_by_name_in_any_order(self):
        self.same(filled(signs=(1, None, 1), book=EVEN), (1, 1, 1))
        self.same(filled(book=EVEN, signs=(1, None, 1)), (1, 1, 1))


class ConsequencesTest(unittest.TestCase):
    def test_words_stay(self):
        for book in small_books():
            for word in words_by_all(book)[:50]:
                self.assertEqual(filled(book, word), word)

    def test_filled_again(self):
        chance = Random(44)
        for book in small_books() + [random_book(chance, 13, 10, 5)]:
            for lost in all_lots(book[1])[::7]:
                once = filled(book, without(some_word(chance, book), lost))
                self.assertEqual(filled(book, once), once)

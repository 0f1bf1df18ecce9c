import unittest
from itertools import combinations
from math import comb
from random import Random

from helpers import (
    ALONE, EVEN, FOUR, FREE, NOT_BOOKS, ODD, PAIRS, Raising, by_powers, places, random_book,
    small_books, told_by_count, words_by_all)
from mendfew.apartness import apart_of, differ_at, near_lots, near_words, signs_within, weights_of
from mendfew.bookchanges import renumbered, side_by_side
from mendfew.bookchecker import is_word
from mendfew.bookparts import told_on, told_signs
from mendfew.fewness import few_of

BOOKS = small_books(most_words=2200, each=4)


def differing(one, other):
    return tuple(place for place in range(len(one)) if one[place] != other[place])


class ApartnessTest(Raising, unittest.TestCase):
    def test_examples(self):
        self.same(
            [apart_of(EVEN), apart_of(PAIRS), apart_of(FOUR), apart_of(FREE), apart_of((3, 1, ((2,),))),
             near_words((3, 1, ((2,),)))],
            [2, 2, 3, 1, None, None])
        self.same(
            [near_lots(EVEN), near_lots(PAIRS), weights_of(EVEN), weights_of(PAIRS), weights_of(FOUR)],
            [((0, 1), (0, 2), (1, 2)), ((0, 1), (2, 3)), (1, 0, 6, 2), (1, 0, 2, 0, 1), (1, 0, 0, 8, 0)])
        self.same(
            [signs_within(FOUR, (0, 1, 2)), signs_within(FOUR, (0, 1)), signs_within(PAIRS, ()),
             differ_at(EVEN, (0, 1, 2), (0, 2, 1)), len(differ_at(FOUR, *near_words(FOUR)))],
            [1, 0, 0, (1, 2), 3])

    def near(self, book, apart):
        pair = near_words(book)
        self.assertIs(type(pair), tuple)
        self.assertEqual(len(pair), 2)
        for word in pair:
            self.assertIs(type(word), tuple)
            self.assertTrue(is_word(book, word))
        self.assertEqual(len(differing(*pair)), apart)

    def test_against_all_pairs_of_words(self):
        for book in small_books(most_words=130, each=4):
            words = words_by_all(book)
            lots = {differing(one, other) for one, other in combinations(words, 2)}
            if not lots:
                self.same([apart_of(book), near_words(book), near_lots(book)], [None, None, ()])
                continue
            apart = min(map(len, lots))
            self.same(apart_of(book), apart)
            self.near(book, apart)
            self.same(near_lots(book), tuple(sorted(lot for lot in lots if len(lot) == apart)))

    def test_against_all_words(self):
        for book in BOOKS:
            words = words_by_all(book)
            counts = [0] * (book[1] + 1)
            for word in words:
                counts[len(places(word))] += 1
            self.same(weights_of(book), tuple(counts))
            for many in range(book[1] + 1):
                for lot in combinations(range(book[1]), many):
                    within = [word for word in words if set(places(word)) <= set(lot)]
                    self.same(signs_within(book, lot), told_by_count(book[0], len(within)))

    def test_one_word_alone(self):
        for book in (ALONE, (2, 1, ((1,),)), (3, 2, ((1, 1), (1, 2))), (5, 2, ((0, 1), (1, 0)))):
            self.same([apart_of(book), near_words(book), near_lots(book)], [None, None, ()])
            self.same(weights_of(book), (1,) + (0,) * book[1])

    def test_books_without_sums(self):
        for prime, size in ((2, 1), (2, 10), (3, 4), (13, 10), (13, 12)):
            book = (prime, size, ())
            self.same(apart_of(book), 1)
            self.near(book, 1)
            self.same(near_lots(book), tuple((place,) for place in range(size)))
            told = tuple(comb(size, many) * (prime - 1) ** many for many in range(size + 1))
            self.same(weights_of(book), told)

    def test_ten_places_by_powers(self):
        for told in range(1, 10):
            book = by_powers(13, 10, told)
            apart = 10 - told + 1
            self.same(apart_of(book), apart)
            self.near(book, apart)
            self.same(near_lots(book), tuple(combinations(range(10), apart)))
            weights = [1] + [0] * 10
            for many in range(apart, 11):
                weights[many] = comb(10, many) * sum(
                    (-1) ** less * comb(many, less) * (13 ** (many - apart + 1 - less) - 1)
                    for less in range(many - apart + 1))
            self.same(weights_of(book), tuple(weights))

    def test_blocks_side_by_side(self):
        block = (5, 3, ((1, 1, 1),))
        book = side_by_side(side_by_side(block, block), (5, 4, ((1, 2, 3, 4), (1, 1, 1, 1))))
        self.same(apart_of(book), 2)
        self.same(near_lots(book), ((0, 1), (0, 2), (1, 2), (3, 4), (3, 5), (4, 5)))
        one, other = weights_of(block), weights_of((5, 4, ((1, 2, 3, 4), (1, 1, 1, 1))))
        told = [0] * 11
        for a, many in enumerate(one):
            for b, more in enumerate(one):
                for c, most in enumerate(other):
                    told[a + b + c] += many * more * most
        self.same(weights_of(book), tuple(told))

    def test_differ_at(self):
        for book in small_books(most_words=100):
            words = words_by_all(book)
            for one in words:
                for other in words[:30]:
                    self.same(differ_at(book, one, other), differing(one, other))

    def test_wrong_values(self):
        for book in NOT_BOOKS:
            for call in (apart_of, near_words, near_lots, weights_of):
                self.not_usable('book', call, book)
            self.not_usable('book', signs_within, book, None)
            self.not_usable('book', differ_at, book, None, None)
        for lot in ODD + [(1, 0), (0, 3), [0, 1], 0]:
            self.not_usable('lot', signs_within, EVEN, lot)
        for word in ODD + [(), (1, 1), (1, 1, 0), (0, 0, 3), [0, 0, 0], 0]:
            self.not_usable('signs', differ_at, EVEN, word, word)
            self.not_usable('late', differ_at, EVEN, (0, 0, 0), word)

    def test_by_name_in_any_order(self):
        self.same([call(book=EVEN) for call in (apart_of, near_lots, weights_of)],
                  [2, ((0, 1), (0, 2), (1, 2)), (1, 0, 6, 2)])
        self.assertEqual(len(differing(*near_words(book=EVEN))), 2)
        self.same(signs_within(lot=(0, 1), book=EVEN), 1)
        self.same(differ_at(late=(0, 2, 1), signs=(0, 1, 2), book=EVEN), (1, 2))


class ConsequencesTest(unittest.TestCase):
    def books(self):
        chance = Random(17)
        large = [random_book(chance, prime, 10, many) for prime in (2, 3, 7, 13) for many in (1, 4, 6)]
        return small_books(each=4) + large

    def test_weights(self):
        for book in self.books():
            prime, size, _ = book
            weights, apart, told = weights_of(book), apart_of(book), told_signs(book)
            self.assertEqual(len(weights), size + 1)
            self.assertEqual(sum(weights), prime ** told)
            self.assertEqual(weights[0], 1)
            if apart is None:
                self.assertEqual(sum(weights), 1)
            else:
                self.assertEqual([bool(many) for many in weights[1:apart + 1]], [False] * (apart - 1) + [True])
                self.assertEqual(weights[apart], (prime - 1) * len(near_lots(book)))

    def test_lots(self):
        for book in self.books():
            size, told = book[1], told_signs(book)
            for lot in near_lots(book):
                self.assertEqual(signs_within(book, lot), 1)
            for many in range(0, size + 1, 3):
                for lot in list(combinations(range(size), many))[:20]:
                    rest = tuple(place for place in range(size) if place not in lot)
                    self.assertEqual(signs_within(book, lot), told - told_on(book, rest))

    def test_bounds(self):
        for book in self.books():
            apart = apart_of(book)
            self.assertEqual(apart == 1, few_of(book) is None)
            if apart is not None:
                self.assertLessEqual(apart, book[1] - told_signs(book) + 1)

    def test_renumbered(self):
        chance = Random(4)
        for book in self.books():
            order = list(range(book[1]))
            chance.shuffle(order)
            new = renumbered(book, tuple(order))
            self.assertEqual([apart_of(new), weights_of(new)], [apart_of(book), weights_of(book)])

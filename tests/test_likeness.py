import unittest
from itertools import permutations
from random import Random

from helpers import EVEN, FOUR, FREE, LATE, NOT_BOOKS, PAIRS, Raising, cut, small_books, words_by_all
from mendfew.apartness import apart_of, weights_of
from mendfew.bookchanges import renumbered, side_by_side
from mendfew.bookparts import base_sums, told_signs
from mendfew.fewness import few_of, fewest_of
from mendfew.likeness import (
    like_places, plain_book, reduced, renumbering_to, renumberings_of, same_words)

BOOKS = small_books(most_words=260)


def orders(book):
    return list(permutations(range(book[1])))


def keeping(one, other):
    """The orders with which one has the words of the other, going through all words."""
    words, told = words_by_all(one), set(words_by_all(other))
    return [order for order in orders(one) if {cut(word, order) for word in words} == told]


def alike(book):
    """The same words, by sums in another way."""
    prime, size, sums = book
    more = [tuple((a + b) % prime for a, b in zip(one, other)) for one in sums for other in sums[::2]]
    return (prime, size, tuple(row for row in reversed([*sums, *more]) if any(row)))


class LikenessTest(Raising, unittest.TestCase):
    def test_examples(self):
        self.same(
            [same_words(EVEN, (3, 3, ((2, 2, 2), (1, 1, 1)))), same_words(FREE, (3, 2, ())),
             reduced((3, 3, ((2, 2, 2), (1, 1, 1)))) == EVEN, reduced(FOUR)],
            [True, False, True, (3, 4, ((1, 0, 2, 2), (0, 1, 2, 1)))])
        self.same(
            [same_words(renumbered(PAIRS, renumbering_to(PAIRS, LATE)), LATE), renumbering_to(PAIRS, FOUR),
             renumberings_of(PAIRS), renumberings_of(EVEN)],
            [True, None, 8, 6])
        self.same(
            [like_places(PAIRS), like_places((2, 3, ((1, 1, 0),))), plain_book((2, 3, ((1, 1, 0),)))],
            [((0, 1, 2, 3),), ((0, 1), (2,)), (2, 3, ((0, 1, 1),))])

    def test_same_words(self):
        for one in BOOKS:
            self.assertIs(same_words(one, alike(one)), True)
            self.assertIs(same_words(one, one), True)
            for other in BOOKS:
                told = one[:2] == other[:2] and words_by_all(one) == words_by_all(other)
                self.assertIs(same_words(one, other), told)

    def test_same_words_of_large_books(self):
        one = (999983, 100, ((1,) * 100, tuple(range(100))))
        self.assertIs(same_words(one, (999983, 100, (tuple(range(1, 101)), (7,) * 100))), True)
        self.assertIs(same_words(one, (999983, 100, ((7,) * 100,))), False)
        self.assertIs(same_words((2, 99, ()), (2, 100, ())), False)

    def test_reduced(self):
        for book in BOOKS:
            self.same(reduced(book), (book[0], book[1], base_sums(book)))
            self.same(reduced(alike(book)), reduced(book))

    def test_renumbering_to(self):
        chance = Random(8)
        for one in BOOKS:
            for other in BOOKS + [renumbered(alike(one), chance.choice(orders(one)))]:
                if one[:2] != other[:2]:
                    self.assertIsNone(renumbering_to(one, other))
                    continue
                told = keeping(one, other)
                order = renumbering_to(one, other)
                if told:
                    self.assertIs(type(order), tuple)
                    self.assertTrue(all(type(place) is int for place in order))
                    self.assertIn(order, told)
                else:
                    self.assertIsNone(order)

    def test_renumberings_and_like_places(self):
        for book in BOOKS:
            told = keeping(book, book)
            self.same(renumberings_of(book), len(told))
            lots = {tuple(sorted({order[place] for order in told})) for place in range(book[1])}
            self.same(like_places(book), tuple(sorted(lots)))
            self.assertEqual(sorted(sum(lots, ())), list(range(book[1])))

    def test_plain_book(self):
        for book in BOOKS:
            self.same(plain_book(book), min(reduced(renumbered(book, order)) for order in orders(book)))

    def test_six_places(self):
        free, all_same = (13, 6, ()), (13, 6, tuple((1,) + (0,) * at + (12,) + (0,) * (4 - at) for at in range(5)))
        for book in (free, all_same, (13, 6, ((1,) * 6,))):
            self.same(renumberings_of(book), 720)
            self.same(like_places(book), (tuple(range(6)),))
            self.same(plain_book(book), reduced(book))
        blocks = side_by_side(side_by_side((5, 2, ((1, 1),)), (5, 2, ((1, 1),))), (5, 2, ((1, 2),)))
        self.same(renumberings_of(blocks), 8)
        self.same(like_places(blocks), ((0, 1, 2, 3), (4,), (5,)))
        late = side_by_side(side_by_side((5, 2, ((3, 1),)), (5, 2, ((1, 1),))), (5, 2, ((1, 1),)))
        self.assertIn(renumbering_to(blocks, late), keeping_by_reduced(blocks, late))
        self.same(renumbering_to((5, 6, ((1, 2, 0, 0, 0, 0),)), (5, 6, ((0, 0, 1, 1, 0, 0),))), None)

    def test_one_place(self):
        for book in ((2, 1, ()), (3, 1, ((2,),))):
            self.same([renumbering_to(book, book), renumberings_of(book), like_places(book), plain_book(book)],
                      [(0,), 1, ((0,),), reduced(book)])

    def test_wrong_values(self):
        for book in NOT_BOOKS:
            for call in (reduced, renumberings_of, like_places, plain_book):
                self.not_usable('book', call, book)
            for call in (same_words, renumbering_to):
                self.not_usable('one', call, book, None)
                self.not_usable('other', call, FREE, book)

    def test_by_name_in_any_order(self):
        self.same([call(book=FREE) for call in (reduced, renumberings_of, like_places, plain_book)],
                  [FREE, 2, ((0, 1),), FREE])
        self.same(same_words(other=FREE, one=FREE), True)
        one, other = (2, 3, ((1, 1, 0),)), (2, 3, ((1, 1, 1),))
        self.same(renumbering_to(other=other, one=one), None)
        one, other = (3, 2, ((1, 0),)), (3, 2, ((0, 1),))
        self.same(renumbering_to(other=other, one=one), (1, 0))

    def test_which_place_is_which(self):
        one = (7, 3, ((1, 2, 4), (0, 0, 1)))
        for order in orders(one):
            other = renumbered(one, order)
            told = renumbering_to(one, other)
            self.assertTrue(same_words(renumbered(one, told), other))


def keeping_by_reduced(one, other):
    return [order for order in orders(one) if reduced(renumbered(one, order)) == reduced(other)]


class ConsequencesTest(unittest.TestCase):
    def test_same_words_exactly_if_reduced_are_equal(self):
        for one in BOOKS:
            for other in BOOKS + [alike(one)]:
                self.assertEqual(same_words(one, other), reduced(one) == reduced(other))

    def test_plain_books_and_renumberings(self):
        for one in BOOKS[::2]:
            for other in BOOKS + [renumbered(one, orders(one)[-1])]:
                if one[:2] == other[:2]:
                    order = renumbering_to(one, other)
                    self.assertEqual(order is not None, plain_book(one) == plain_book(other))
                    if order is not None:
                        self.assertEqual(len(keeping(one, other)), renumberings_of(one))
                        self.assertEqual(renumberings_of(one), renumberings_of(other))

    def test_renumbered_books_are_like(self):
        chance = Random(6)
        for book in BOOKS:
            new = renumbered(book, chance.choice(orders(book)))
            for told in (told_signs, few_of, apart_of, weights_of, plain_book):
                self.assertEqual(told(new), told(book))

    def test_like_places_have_the_same_fewest(self):
        for book in BOOKS:
            for lot in like_places(book):
                self.assertEqual(len({fewest_of(book, place) for place in lot}), 1)

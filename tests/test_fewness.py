import unittest
from itertools import product
from random import Random

from helpers import (
    ALONE, EVEN, FOUR, FREE, ODD, PAIRS, Raising, by_powers, cut, places, random_book, small_books,
    sums_by_all, words_by_all)
from mendfew.bookchanges import renumbered, side_by_side, with_place
from mendfew.bookparts import keeps, told_signs
from mendfew.fewness import few_of, fewest_of, groups_of, sign_by, sums_of

BOOKS = small_books(most_words=700, each=4)


def least_by_all(book):
    """For each place its fewest and its least sums, going through all sums of the book."""
    prime, size, _ = book
    sums = sums_by_all(book)
    told = []
    for place in range(size):
        having = [numbers for numbers in sums if numbers[place]]
        if not having:
            told.append((None, ()))
            continue
        fewest = min(len(places(numbers)) - 1 for numbers in having)
        least = [numbers for numbers in having if len(places(numbers)) - 1 == fewest]
        ones = tuple(sorted(numbers for numbers in least if numbers[places(numbers)[0]] == 1))
        told.append((fewest, ones))
    return told


class FewnessTest(Raising, unittest.TestCase):
    def test_examples(self):
        self.same(
            [few_of(EVEN), few_of(PAIRS), few_of(FOUR), few_of(FREE), few_of((3, 1, ((2,),))),
             fewest_of((2, 2, ((1, 0),)), 0), fewest_of((2, 2, ((1, 0),)), 1)],
            [2, 1, 2, None, 1, 0, None])
        self.same(
            [sums_of(FOUR, 0), sums_of(FOUR, 2), groups_of(FOUR, 0), groups_of(PAIRS, 3), sums_of(FREE, 0)],
            [((1, 0, 2, 2), (1, 1, 1, 0), (1, 2, 0, 1)), ((0, 1, 2, 1), (1, 0, 2, 2), (1, 1, 1, 0)),
             ((0, 1, 2), (0, 1, 3), (0, 2, 3)), ((2, 3),), ()])
        self.same(
            [sign_by(EVEN, (1, 1, 1), 0, (1, 1)), sign_by(EVEN, (2, 2, 2), 1, (0, 1)),
             sign_by(FOUR, (0, 1, 2, 1), 2, (1, 1))],
            [1, 2, 2])
        self.not_usable('numbers', sign_by, PAIRS, (1, 0, 1, 0), 0, (1,))

    def test_against_all_sums(self):
        for book in BOOKS:
            told = least_by_all(book)
            for place, (fewest, ones) in enumerate(told):
                self.same(fewest_of(book, place), fewest)
                self.same(sums_of(book, place), ones)
                self.same(groups_of(book, place), tuple(sorted({places(numbers) for numbers in ones})))
            fewests = [fewest for fewest, _ in told]
            self.same(few_of(book), None if None in fewests else max([1] + fewests))

    def test_places_that_are_always_nought(self):
        book = (5, 3, ((0, 3, 0), (1, 4, 0), (0, 0, 2)))
        for place in range(3):
            self.same(fewest_of(book, place), 0)
            self.same(groups_of(book, place), ((place,),))
            self.same(sums_of(book, place), (tuple(int(at == place) for at in range(3)),))
        self.same(few_of(book), 1)
        self.same(few_of(ALONE), 1)

    def test_places_that_no_sum_has(self):
        for book in (FREE, (13, 10, ()), (2, 1, ())):
            for place in range(book[1]):
                self.same(fewest_of(book, place), None)
                self.same(sums_of(book, place), ())
                self.same(groups_of(book, place), ())
            self.same(few_of(book), None)
        self.same(few_of((2, 3, ((1, 1, 0),))), None)
        self.same(fewest_of((2, 3, ((1, 1, 0),)), 0), 1)

    def test_groups_side_by_side(self):
        book = side_by_side(side_by_side((7, 3, ((1, 2, 3),)), (7, 2, ((1, 1),))), (7, 5, ((1, 1, 1, 1, 1),)))
        self.assertEqual([fewest_of(book, place) for place in range(10)], [2] * 3 + [1] * 2 + [4] * 5)
        self.same(groups_of(book, 1), ((0, 1, 2),))
        self.same(groups_of(book, 4), ((3, 4),))
        self.same(sums_of(book, 9), ((0,) * 5 + (1,) * 5,))
        self.same(few_of(book), 4)

    def test_ten_places_that_each_need_many(self):
        for told in (1, 2, 5, 9):
            book = by_powers(13, 10, told)
            self.assertEqual(told_signs(book), told)
            self.same(few_of(book), told)
            for place in (0, 9):
                self.same(fewest_of(book, place), told)
                groups = groups_of(book, place)
                self.assertEqual(len(groups), [9, 36, 84, 126, 126, 84, 36, 9, 1][told - 1])
                self.assertTrue(all(place in lot and len(lot) == told + 1 for lot in groups))

    def test_returned_books_of_twelve_places(self):
        book = by_powers(13, 12, 6)
        self.same(few_of(book), 6)
        self.same(few_of(with_place(by_powers(13, 11, 10), (1,) + (0,) * 10)), 10)
        self.same(fewest_of(with_place(by_powers(13, 11, 10), (1,) + (0,) * 10), 11), 1)
        self.same(few_of((13, 12, ((1,) * 12,))), 11)

    def test_sign_by_in_each_word(self):
        for book in BOOKS:
            sums = sums_by_all(book)
            for numbers in sums[:40]:
                for place in places(numbers):
                    others = tuple(at for at in places(numbers) if at != place)
                    for word in words_by_all(book)[:20]:
                        self.same(sign_by(book, numbers, place, cut(word, others)), word[place])

    def test_sign_by_any_signs(self):
        book = (5, 3, ((2, 3, 4),))
        for others in product(range(5), repeat=2):
            sign = sign_by(book, (1, 4, 2), 1, others)
            self.assertEqual((others[0] + 4 * sign + 2 * others[1]) % 5, 0)
        self.same(sign_by(ALONE, (1,), 0, ()), 0)

    def test_sign_by_wrong_values(self):
        for numbers in ODD + [(0, 0, 0), (1, 2, 0), (1, 1), (1, 1, 3), [1, 1, 1], 0]:
            self.not_usable('numbers', sign_by, EVEN, numbers, None, None)
        book = (3, 3, ((1, 1, 0),))
        for place in ODD + [2, 3, (0,), '0']:
            self.not_usable('place', sign_by, book, (1, 1, 0), place, None)
        for others in ODD + [(), (0, 0), (3,), [0], 0]:
            self.not_usable('others', sign_by, book, (1, 1, 0), 0, others)
        self.not_usable('others', sign_by, ALONE, (2,), 0, (0,))

    def test_by_name_in_any_order(self):
        self.same(fewest_of(place=0, book=EVEN), 2)
        self.same(few_of(book=EVEN), 2)
        self.same(sums_of(place=0, book=EVEN), ((1, 1, 1),))
        self.same(groups_of(place=0, book=EVEN), ((0, 1, 2),))
        self.same(sign_by(others=(1, 1), place=0, numbers=(1, 1, 1), book=EVEN), 1)


class ConsequencesTest(unittest.TestCase):
    def test_nought_and_none(self):
        for book in BOOKS:
            words = words_by_all(book)
            for place in range(book[1]):
                fewest = fewest_of(book, place)
                self.assertEqual(fewest == 0, all(word[place] == 0 for word in words))
                alone = any(places(word) == (place,) for word in words)
                self.assertEqual(fewest is None, alone)
                if fewest is not None:
                    self.assertLessEqual(fewest, told_signs(book))

    def test_as_many_groups_as_sums(self):
        chance = Random(3)
        large = [random_book(chance, prime, 10, 6) for prime in (2, 3, 5, 11, 13) for _ in range(2)]
        for book in BOOKS + large:
            for place in range(book[1]):
                sums = sums_of(book, place)
                groups = groups_of(book, place)
                self.assertEqual(len(groups), len(sums))
                self.assertEqual(sorted(places(numbers) for numbers in sums), list(groups))
                for numbers in sums:
                    self.assertTrue(keeps(book, numbers))
                    self.assertEqual(numbers[places(numbers)[0]], 1)
                    self.assertEqual(len(places(numbers)), fewest_of(book, place) + 1)
                self.assertEqual(list(sums), sorted(set(sums)))

    def test_the_sign_of_each_word(self):
        for book in BOOKS:
            for place in range(book[1]):
                for numbers in sums_of(book, place):
                    others = tuple(at for at in places(numbers) if at != place)
                    for word in words_by_all(book):
                        self.assertEqual(sign_by(book, numbers, place, cut(word, others)), word[place])

    def test_few_of_renumbered(self):
        chance = Random(9)
        for book in BOOKS:
            order = list(range(book[1]))
            chance.shuffle(order)
            new = renumbered(book, tuple(order))
            self.assertEqual(few_of(new), few_of(book))
            self.assertEqual([fewest_of(new, at) for at in range(book[1])],
                             [fewest_of(book, place) for place in order])

import unittest
from math import gcd

from helpers import BIG, Raising
from mendfew.apartness import apart_of
from mendfew.bookparts import base_words, told_on, told_signs
from mendfew.crossed import crossed_book, crossed_groups, crossed_used
from mendfew.fewness import fewest_of
from mendfew.noughtchecker import lets_noughts
from mendfew.powers import class_numbers
from mendfew.price import price_of
from powered import all_crossed, is_book_by, is_told_by, same_rest
from test_powers import NOT_COUNTS, NOT_PRIMES


class CrossedTest(Raising, unittest.TestCase):
    def test_examples(self):
        self.same(
            [crossed_used(2, 3, 1), crossed_groups(2, 3, 1), base_words(crossed_book(7, 2, 3, 1, 1))],
            [(0, 4), (((0, 3), (1, 4), (2, 5)), ((0, 2, 4), (1, 3, 5))), ((1, 1, 1, 1, 1, 1),)])
        self.not_usable('other', crossed_book, 7, 2, 4, 1, 1)

    def test_used(self):
        for one in range(2, 8):
            for other in range(2, 8):
                if gcd(one, other) > 1:
                    continue
                for many in range(1, 4):
                    self.same(crossed_used(one, other, many), tuple(
                        e for e in range(one * other * many) if e % one != one - 1 and e % other != other - 1))
        self.same(crossed_used(3, 2, 1), (0, 4))
        self.same(crossed_used(2, 3, 2), (0, 4, 6, 10))
        self.same(crossed_used(4, 25, 1)[:6], (0, 1, 2, 4, 5, 6))
        self.same(crossed_used(4, 25, 1)[-1], 98)

    def test_groups(self):
        for prime, one, other, many in all_crossed() + [(101, 4, 25, 1), (31, 2, 5, 3), (31, 5, 6, 1)]:
            numbers = class_numbers(prime, one * other, many)
            self.same(
                crossed_groups(one, other, many), (same_rest(numbers, one, prime), same_rest(numbers, other, prime)))
        self.same(crossed_groups(3, 2, 1), (((0, 2, 4), (1, 3, 5)), ((0, 3), (1, 4), (2, 5))))
        self.same(crossed_groups(2, 3, 2), (
            ((0, 3), (1, 4), (2, 5), (6, 9), (7, 10), (8, 11)),
            ((0, 2, 4), (1, 3, 5), (6, 8, 10), (7, 9, 11))))

    def test_classes_have_one_place_in_common(self):
        for one, other, many in ((2, 3, 1), (3, 2, 2), (3, 4, 1), (5, 2, 3), (3, 5, 2)):
            left, right = crossed_groups(one, other, many)
            for place in range(one * other * many):
                here = [[lot for lot in lots if place in lot] for lots in (left, right)]
                self.assertEqual([len(lots) for lots in here], [1, 1])
                self.assertEqual(set(here[0][0]) & set(here[1][0]), {place})
                self.assertEqual([len(here[0][0]), len(here[1][0])], [one, other])

    def test_words_are_the_sums_of_the_powers(self):
        for prime, one, other, many in all_crossed():
            numbers, used = class_numbers(prime, one * other, many), crossed_used(one, other, many)
            for told in range(1, len(used) + 1):
                book = crossed_book(prime, one, other, many, told)
                self.assertTrue(is_book_by(book, prime, numbers, used[:told]), book)
                self.assertIs(type(book), tuple)
        self.same(crossed_book(7, 3, 2, 1, 2), crossed_book(7, 2, 3, 1, 2))

    def test_wrong_values(self):
        for prime in NOT_PRIMES:
            self.not_usable('prime', crossed_book, prime, 2, 3, 1, 1)
            self.not_usable('prime', crossed_book, prime, None, None, None, None)
        for one in NOT_COUNTS + [1]:
            self.not_usable('one', crossed_used, one, 3, 1)
            self.not_usable('one', crossed_used, one, one, None)
            self.not_usable('one', crossed_groups, one, 3, 1)
            self.not_usable('one', crossed_groups, one, 1, 0)
            self.not_usable('one', crossed_book, 7, one, 3, 1, 1)
            self.not_usable('one', crossed_book, 7, one, 0, 0, 0)
        for other in NOT_COUNTS + [1, 2, 4, 6, 10 ** 60]:
            self.not_usable('other', crossed_used, 2, other, 1)
            self.not_usable('other', crossed_used, 2, other, None)
            self.not_usable('other', crossed_groups, 2, other, 1)
            self.not_usable('other', crossed_groups, 2, other, 0)
            self.not_usable('other', crossed_book, 7, 2, other, 1, 1)
            self.not_usable('other', crossed_book, 7, 2, other, 0, 0)
        self.not_usable('other', crossed_used, 6, 4, 1)
        self.not_usable('other', crossed_groups, 6, 9, 1)
        self.not_usable('other', crossed_used, BIG - 1, 2, 1)

    def test_groups_that_divide_prime_less_one(self):
        for other in (5, 7, 9, BIG):
            if other < 100:
                self.assertEqual(crossed_used(2, other, 1)[0], 0)
            self.not_usable('other', crossed_book, 13, 2, other, 1, 1)
            self.not_usable('other', crossed_book, 13, 2, other, 0, 0)
        self.not_usable('other', crossed_book, 13, 5, 3, 1, 1)
        self.not_usable('other', crossed_book, 13, 5, 2, 1, 1)
        self.not_usable('other', crossed_book, 3, 2, 3, 1, 1)
        self.not_usable('other', crossed_book, 2, 2, 3, 1, 1)

    def test_wrong_many_and_told(self):
        for many in NOT_COUNTS:
            self.not_usable('many', crossed_used, 2, 3, many)
            self.not_usable('many', crossed_groups, 2, 3, many)
            self.not_usable('many', crossed_book, 13, 2, 3, many, 1)
        for many in (3, 4, 12, BIG):
            self.not_usable('many', crossed_book, 13, 2, 3, many, 1)
            self.not_usable('many', crossed_book, 13, 2, 3, many, 0)
        self.not_usable('many', crossed_book, 31, 2, 3, 6, 1)
        self.not_usable('many', crossed_book, 31, 5, 6, 2, 1)
        self.assertEqual(crossed_book(31, 2, 3, 5, 1)[1], 30)
        for told in NOT_COUNTS + [5, 6, BIG]:
            self.not_usable('told', crossed_book, 13, 2, 3, 2, told)
        self.not_usable('told', crossed_book, 7, 2, 3, 1, 3)
        self.assertEqual(told_signs(crossed_book(7, 2, 3, 1, 2)), 2)

    def test_by_name_in_any_order(self):
        self.same(crossed_used(many=1, other=3, one=2), (0, 4))
        self.same(crossed_groups(many=1, other=3, one=2), crossed_groups(2, 3, 1))
        self.same(crossed_book(told=2, many=1, other=3, one=2, prime=7), crossed_book(7, 2, 3, 1, 2))


class ConsequencesTest(unittest.TestCase):
    def test_places_are_told_by_the_others_of_either_class(self):
        for prime, one, other, many in all_crossed():
            used = crossed_used(one, other, many)
            for told in range(1, len(used) + 1):
                book = crossed_book(prime, one, other, many, told)
                for lots in crossed_groups(one, other, many):
                    for lot in lots:
                        self.assertLess(told_on(book, lot), len(lot))
                        for place in lot:
                            self.assertTrue(
                                is_told_by(book, place, tuple(at for at in lot if at != place)))
                            self.assertLessEqual(fewest_of(book, place), min(one, other) - 1)

    def test_how_far_they_lie_apart(self):
        for prime, one, other, many in all_crossed():
            used = crossed_used(one, other, many)
            for told in range(1, len(used) + 1):
                book = crossed_book(prime, one, other, many, told)
                least = book[1] - used[told - 1]
                self.assertEqual(told_signs(book), told)
                self.assertLessEqual(least, apart_of(book))
                self.assertLessEqual(apart_of(book), price_of(book))
                paper = ('noughts', class_numbers(prime, one * other, many), used[:told])
                self.assertEqual(lets_noughts(book, paper), least)

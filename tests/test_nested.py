import unittest
from itertools import combinations

from helpers import BIG, Raising
from mendfew.apartness import apart_of
from mendfew.bookparts import told_on, told_signs
from mendfew.fewness import few_of
from mendfew.nested import nested_book, nested_groups, nested_used
from mendfew.noughtchecker import lets_noughts
from mendfew.powers import class_numbers
from mendfew.price import price_of
from powered import all_nested, is_book_by, is_told_by, same_rest
from test_powers import NOT_COUNTS, NOT_PRIMES


class NestedTest(Raising, unittest.TestCase):
    def test_examples(self):
        self.same(
            [nested_used(1, 4, 3, 2), nested_used(1, 4, 2, 2), nested_groups(13, 1, 4, 2)],
            [(0, 2, 4, 6), (0, 4), (((0, 2), (1, 3), (4, 6), (5, 7)), ((0, 1, 2, 3), (4, 5, 6, 7)))])
        self.same(nested_book(13, 1, 4, 3, 1, 2), (13, 4, ((1, 0, 12, 0), (0, 1, 0, 12))))

    def test_used(self):
        for few in range(1, 6):
            for wide in range(few + 1, 13, few + 1):
                for inner in range(1, wide + 1):
                    for many in range(1, 5):
                        self.same(nested_used(few, wide, inner, many), tuple(
                            e for e in range(wide * many) if e % (few + 1) != few and e % wide < inner))
        self.same(nested_used(1, 2, 1, 3), (0, 2, 4))
        self.same(nested_used(1, 100, 100, 1), tuple(range(0, 100, 2)))
        self.same(nested_used(99, 100, 100, 1), tuple(range(99)))
        self.same(nested_used(2, 6, 1, 2), (0, 6))

    def test_groups(self):
        for prime, few, wide, _, many in all_nested():
            numbers = class_numbers(prime, wide, many)
            narrow = tuple(sorted(same_rest(numbers, few + 1, prime)))
            self.same(nested_groups(prime, few, wide, many), (narrow, same_rest(numbers, wide, prime)))
        self.same(nested_groups(7, 2, 6, 1), (((0, 2, 4), (1, 3, 5)), ((0, 1, 2, 3, 4, 5),)))
        self.same(nested_groups(7, 5, 6, 1), (((0, 1, 2, 3, 4, 5),), ((0, 1, 2, 3, 4, 5),)))
        self.same(nested_groups(3, 1, 2, 1), (((0, 1),), ((0, 1),)))
        self.same(nested_groups(101, 1, 4, 25)[0][-1], (97, 99))

    def test_words_are_the_sums_of_the_powers(self):
        for prime, few, wide, inner, many in all_nested():
            numbers, used = class_numbers(prime, wide, many), nested_used(few, wide, inner, many)
            for told in range(1, len(used) + 1):
                book = nested_book(prime, few, wide, inner, many, told)
                self.assertTrue(is_book_by(book, prime, numbers, used[:told]), book)
                self.assertIs(type(book), tuple)

    def test_wrong_values(self):
        for prime in NOT_PRIMES:
            self.not_usable('prime', nested_groups, prime, 1, 4, 2)
            self.not_usable('prime', nested_groups, prime, None, None, None)
            self.not_usable('prime', nested_book, prime, 1, 4, 3, 1, 2)
            self.not_usable('prime', nested_book, prime, None, None, None, None, None)
        for few in NOT_COUNTS:
            self.not_usable('few', nested_used, few, 4, 3, 2)
            self.not_usable('few', nested_used, few, None, None, None)
            self.not_usable('few', nested_groups, 13, few, 4, 2)
            self.not_usable('few', nested_groups, 13, few, 0, 0)
            self.not_usable('few', nested_book, 13, few, 4, 3, 1, 2)
            self.not_usable('few', nested_book, 13, few, 0, 0, 0, 0)
        for wide in NOT_COUNTS + [1, 3, 5, 7]:
            self.not_usable('wide', nested_used, 1, wide, 1, 2)
            self.not_usable('wide', nested_used, 1, wide, None, None)
            self.not_usable('wide', nested_groups, 13, 1, wide, 2)
            self.not_usable('wide', nested_book, 13, 1, wide, 1, 1, 1)
        self.not_usable('wide', nested_used, 2, 2, 1, 1)
        self.not_usable('wide', nested_used, 2, 4, 1, 1)
        self.not_usable('wide', nested_used, BIG, 4, 1, 1)

    def test_wide_that_divides_prime_less_one(self):
        # A multiple of few + 1, which nested_used takes.
        for wide in (8, 10, 14, 24, BIG - 1):
            if wide < 100:
                self.assertEqual(nested_used(1, wide, 1, 1), (0,))
            self.not_usable('wide', nested_groups, 13, 1, wide, 1)
            self.not_usable('wide', nested_groups, 13, 1, wide, 0)
            self.not_usable('wide', nested_book, 13, 1, wide, 1, 1, 1)
            self.not_usable('wide', nested_book, 13, 1, wide, 0, 0, 0)
        self.not_usable('wide', nested_groups, 2, 1, 2, 1)

    def test_wrong_inner_many_and_told(self):
        for inner in NOT_COUNTS + [5, 6, BIG]:
            self.not_usable('inner', nested_used, 1, 4, inner, 2)
            self.not_usable('inner', nested_used, 1, 4, inner, 0)
            self.not_usable('inner', nested_book, 13, 1, 4, inner, 1, 1)
            self.not_usable('inner', nested_book, 13, 1, 4, inner, 0, 0)
        for many in NOT_COUNTS:
            self.not_usable('many', nested_used, 1, 4, 3, many)
            self.not_usable('many', nested_groups, 13, 1, 4, many)
            self.not_usable('many', nested_book, 13, 1, 4, 3, many, 1)
        for many in (4, 5, 12, BIG):
            self.not_usable('many', nested_groups, 13, 1, 4, many)
            self.not_usable('many', nested_book, 13, 1, 4, 3, many, 1)
            self.not_usable('many', nested_book, 13, 1, 4, 3, many, 0)
        for told in NOT_COUNTS + [5, 6, BIG]:
            self.not_usable('told', nested_book, 13, 1, 4, 3, 2, told)
        self.not_usable('told', nested_book, 13, 1, 4, 2, 2, 3)
        self.not_usable('told', nested_book, 13, 1, 4, 4, 1, 3)

    def test_by_name_in_any_order(self):
        self.same(nested_used(many=2, inner=3, wide=4, few=1), (0, 2, 4, 6))
        self.same(nested_groups(many=1, wide=4, few=1, prime=13), (((0, 2), (1, 3)), ((0, 1, 2, 3),)))
        self.same(
            nested_book(told=2, many=1, inner=3, wide=4, few=1, prime=13),
            (13, 4, ((1, 0, 12, 0), (0, 1, 0, 12))))


def some_books():
    """Each of all_nested with few powers taken, and with all; one in five where there are many places."""
    for at, (prime, few, wide, inner, many) in enumerate(all_nested()):
        used = nested_used(few, wide, inner, many)
        for told in sorted({1 + at % len(used), len(used)}):
            if wide * many < 10 or (at + told) % 5 == 0:
                yield (prime, few, wide, inner, many, told)


class ConsequencesTest(unittest.TestCase):
    def test_places_are_told_as_told_there(self):
        for prime, few, wide, inner, many, told in some_books():
            book = nested_book(prime, few, wide, inner, many, told)
            narrow, broad = nested_groups(prime, few, wide, many)
            for lot in broad:
                self.assertLessEqual(told_on(book, lot), inner)
            for lot in narrow:
                self.assertLessEqual(told_on(book, lot), few)
                for place in lot:
                    self.assertTrue(is_told_by(book, place, tuple(at for at in lot if at != place)))
            if inner == wide:
                continue
            # Of these lots there are many: those of one place of each class.
            for lot in broad:
                place = lot[told % len(lot)]
                for others in list(combinations([at for at in lot if at != place], inner))[:60]:
                    self.assertTrue(is_told_by(book, place, others))

    def test_how_far_they_lie_apart(self):
        for prime, few, wide, inner, many, told in some_books():
            used = nested_used(few, wide, inner, many)
            book = nested_book(prime, few, wide, inner, many, told)
            least = book[1] - used[told - 1]
            self.assertEqual(told_signs(book), told)
            self.assertLessEqual(few_of(book), max(1, min(few, inner)) if inner < wide else few)
            self.assertLessEqual(least, apart_of(book))
            self.assertLessEqual(apart_of(book), price_of(book))
            paper = ('noughts', class_numbers(prime, wide, many), used[:told])
            self.assertEqual(lets_noughts(book, paper), least)

import unittest
from copy import deepcopy
from itertools import product
from random import Random

from helpers import BIG, EVEN, FREE, ODD, PAIRS, Raising, power_rows
from mendfew.bookchanges import renumbered, side_by_side, with_sum, without_place
from mendfew.bookclasses import Book
from mendfew.bookparts import all_words, base_sums, base_words, keeps, told_on
from mendfew.booktexts import book_text
from mendfew.noughtchecker import lets_noughts
from mendfew.powerclasses import Powered
from mendfew.powers import powers_book, powers_groups, powers_places, powers_used
from powered import all_powers
from test_powers import NOT_COUNTS, NOT_PRIMES


class Derived(Powered):
    """A class of a caller, below Powered."""


class Named(Powered):
    """A class of a caller that is made of other things."""

    def __init__(self, name):
        super().__init__(7, 2, 2, 3)
        self.name = name


def made():
    return [Powered(7, 2, 2, 3), Powered(told=3, many=2, few=2, prime=7), Derived(7, 2, 2, 3), Named('x')]


class PoweredTest(Raising, unittest.TestCase):
    def test_examples(self):
        it = Powered(7, 2, 2, 3)
        self.same(
            [it.numbers_now, it.used_now, it.groups_now, it.least_now, it.told_now, it.word_by((1, 1, 0)),
             it.numbers_of((1, 1, 1, 6, 6, 6)), it.book_now == powers_book(7, 2, 2, 3)],
            [(1, 2, 4, 3, 6, 5), (0, 1, 3), ((0, 1, 2), (3, 4, 5)), 3, 3, (2, 3, 5, 4, 0, 6), (0, 0, 1), True])

    def test_properties(self):
        for prime, few, many, told in all_powers() + [(31, 2, 4, 5), (999961, 2, 4, 7), (41, 4, 2, 8)]:
            it = Powered(prime, few, many, told)
            self.same(it.numbers_now, powers_places(prime, few, many))
            self.same(it.used_now, powers_used(few, told))
            self.same(it.groups_now, powers_groups(few, many))
            self.same(it.least_now, (few + 1) * many - powers_used(few, told)[-1])
            self.same(it.book_now, powers_book(prime, few, many, told))
            self.same(it.told_now, told)
            self.same(it.noughts_paper(), ('noughts', it.numbers_now, it.used_now))
            self.same(lets_noughts(it.book_now, it.noughts_paper()), it.least_now)

    def test_words_and_numbers(self):
        for prime, few, many, told in all_powers():
            if prime ** told > 400:
                continue
            it = Powered(prime, few, many, told)
            rows = power_rows(prime, it.numbers_now, it.used_now)
            found = []
            for numbers in product(range(prime), repeat=told):
                word = it.word_by(numbers)
                self.same(word, tuple(
                    sum(number * row[at] for number, row in zip(numbers, rows)) % prime
                    for at in range(len(it))))
                self.same(it.numbers_of(word), numbers)
                self.assertIs(it(word), True)
                found.append(word)
            self.assertEqual(sorted(found), list(all_words(it.book_now)))

    def test_words_of_large_books(self):
        chance = Random(65)
        for prime, few, many, told in ((13, 2, 4, 8), (13, 11, 1, 11), (999961, 2, 4, 7), (31, 4, 2, 8)):
            it = Powered(prime, few, many, told)
            for _ in range(9):
                numbers = tuple(chance.randrange(prime) for _ in range(told))
                self.same(it.numbers_of(it.word_by(numbers)), numbers)
            self.same(it.word_by((0,) * told), (0,) * len(it))
            self.same(it.numbers_of((0,) * len(it)), (0,) * told)

    def test_wrong_words_and_numbers(self):
        for it in made():
            for numbers in ODD + [
                    0, (), (1, 1), (1, 1, 0, 0), (1, 7, 0), (1, -1, 0), (True, 1, 0), (1, 1, False), [1, 1, 0],
                    '110', ('1', '1', '0'), (1, (1,), 0), (1, 1, BIG)]:
                self.not_usable('numbers', it.word_by, numbers)
                self.not_usable('numbers', it.word_by, numbers=numbers)
            for signs in ODD + [
                    0, (), (1, 1, 1), (1, 1, 1, 6, 6, 5), (1, 1, 1, 6, 6, 6, 0), (1, 1, 1, 6, 6, 13),
                    (True, 1, 1, 6, 6, 6), [1, 1, 1, 6, 6, 6], (1, 1, 1, -1, -1, -1), (1, 1, None, 6, 6, 6)]:
                self.not_usable('signs', it.numbers_of, signs)
                self.not_usable('signs', it.numbers_of, signs=signs)

    def test_errors_of_making(self):
        for kind in (Powered, Derived):
            for prime in NOT_PRIMES:
                self.not_usable('prime', kind, prime, 1, 1, 1)
                self.not_usable('prime', kind, prime, None, None, None)
            for few in NOT_COUNTS + [BIG, 4, 6, 7, 12, 13]:
                self.not_usable('few', kind, 13, few, 1, 1)
                self.not_usable('few', kind, 13, few, 0, 0)
            for many in NOT_COUNTS + [BIG, 4, 5]:
                self.not_usable('many', kind, 13, 3, many, 1)
                self.not_usable('many', kind, 13, 3, many, 0)
            for told in NOT_COUNTS + [BIG, 7, 8]:
                self.not_usable('told', kind, 13, 3, 2, told)
            self.not_usable('few', kind, 2, 1, 1, 1)

    def test_all_that_a_book_has(self):
        book = powers_book(7, 2, 2, 3)
        chance = Random(66)
        for it in made():
            self.assertIsInstance(it, Book)
            self.same([it.words_now, it.sums_now], [base_words(book), base_sums(book)])
            self.same(list(it), list(book[2]))
            self.same([it[k] for k in range(3)], list(book[2]))
            self.same([len(it), str(it)], [6, book_text(book)])
            for numbers in book[2] + ((1, 1, 1, 1, 1, 1), (2, 0, 0, 0, 0, 5), [1, 1], None, True):
                self.assertIs(numbers in it, numbers in book[2])
            for _ in range(9):
                numbers = tuple(chance.randrange(7) for _ in range(6))
                self.same(it.keeps(numbers), keeps(book, numbers))
                lot = tuple(sorted(chance.sample(range(6), chance.randrange(7))))
                self.same(it.told_on(lot), told_on(book, lot))
            self.assertIs(it((1, 1, 1, 6, 6, 6)), True)
            self.assertIs(it((1, 1, 1, 6, 6, 5)), False)
            for k in ODD + [3, '0']:
                self.not_usable('k', it.__getitem__, k)

    def test_what_is_put_together_of_it(self):
        book = powers_book(7, 2, 2, 3)
        numbers, order = (1, 0, 0, 0, 0, 6), (5, 4, 3, 2, 1, 0)
        for it in made():
            for new, told in (
                    (it + numbers, with_sum(book, numbers)), (it - 2, without_place(book, 2)),
                    (it & Book(7, 2), side_by_side(book, (7, 2, ()))), (it & it, side_by_side(book, book)),
                    (Book(7, 2) & it, side_by_side((7, 2, ()), book)),
                    (it.renumbered(order), renumbered(book, order)),
                    (it.renumbered(places=order), renumbered(book, order))):
                self.assertIs(type(new), Book)
                self.same(new.book_now, told)
            self.same(it.book_now, book)
            for other in ODD + [0, book, 'x']:
                self.not_usable('other', lambda: it & other)
                self.not_usable('numbers', lambda: it + other)
            self.not_usable('other', lambda: it & Book(2, 2))
            for place in ODD + [6, '0']:
                self.not_usable('place', lambda: it - place)
            for places in ODD + [(0, 1, 2, 3, 4), (0, 1, 2, 3, 4, 4), list(order)]:
                self.not_usable('places', it.renumbered, places)

    def test_class_methods_are_those_of_book(self):
        self.assertIs(type(Book.of(Powered(7, 2, 2, 3).book_now)), Book)
        self.assertEqual(Book.read(str(Powered(7, 2, 2, 3))), Powered(7, 2, 2, 3))

    def test_equal(self):
        book = powers_book(7, 2, 2, 3)
        for it in made():
            for other in made() + [Book.of(book)]:
                self.assertIs(it == other, True)
                self.assertIs(other == it, True)
                self.assertIs(it != other, False)
            for other in (Powered(7, 2, 2, 2), Powered(7, 1, 3, 3), Book.of(EVEN), Book.of(PAIRS), FREE, book,
                          None, True, 'x', [1], Book(7, 6, *book[2][::-1])):
                self.assertIs(it == other, False)
                self.assertIs(it != other, True)
        # Of other numbers, but with the same words and sums.
        self.assertIs(Powered(5, 1, 2, 1) == Powered(5, 3, 1, 1), True)

    def test_never_changes(self):
        for it in made():
            for name in ('numbers_now', 'used_now', 'groups_now', 'least_now', 'book_now', 'told_now'):
                with self.assertRaises(AttributeError):
                    setattr(it, name, ())
            handed = ((1, 1, 0), (1, 1, 1, 6, 6, 6), [1, 1, 0], [1])
            before = deepcopy(handed)
            it.word_by(handed[0]), it.numbers_of(handed[1])
            self.not_usable('numbers', it.word_by, handed[2])
            self.not_usable('signs', it.numbers_of, handed[3])
            self.same(handed, before)
            self.same([it.book_now, it.used_now], [powers_book(7, 2, 2, 3), (0, 1, 3)])

    def test_in_place_leaves_the_first(self):
        first = Powered(7, 2, 2, 3)
        it = first
        it -= 0
        self.assertIs(type(it), Book)
        self.assertEqual([len(it), len(first)], [5, 6])

    def test_defined_in_the_class_itself(self):
        for name in ('__init__', 'numbers_now', 'used_now', 'groups_now', 'least_now', 'noughts_paper',
                     'word_by', 'numbers_of'):
            self.assertIn(name, vars(Powered))
        self.assertEqual(Powered.__bases__, (Book,))

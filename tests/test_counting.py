import unittest
from copy import deepcopy
from itertools import combinations
from random import Random

from faults import Small
from helpers import (
    ALONE, EVEN, FOUR, FREE, LATE, NOT_BOOKS, ODD, PAIRS, Raising, all_lots, by_powers, few_places,
    random_book, small_books)
from mendfew.apartness import apart_of
from mendfew.bookparts import base_sums, told_signs
from mendfew.counting import goings_by_size, losses_by_size
from mendfew.goings import is_mended_by
from mendfew.losses import is_mended
from mendfew.powers import powers_book

TWO = (2, 3, ((1, 1, 0), (0, 1, 1)))


def mended_by(sums, lost):
    """Whether nothing is left in the end, one place mended after the other."""
    left = set(lost)
    while True:
        for numbers in sums:
            gone = [place for place in left if numbers[place]]
            if len(gone) == 1:
                left.remove(gone[0])
                break
        else:
            return not left


class CountingTest(Raising, unittest.TestCase):
    def test_examples(self):
        self.same(
            [losses_by_size(EVEN), losses_by_size(PAIRS), losses_by_size(FREE), goings_by_size(EVEN, ()),
             goings_by_size(PAIRS, PAIRS[2])],
            [(1, 3, 0, 0), (1, 4, 4, 0, 0), (1, 0, 0), (1, 0, 0, 0), (1, 4, 4, 0, 0)])
        self.same(
            [losses_by_size(TWO), goings_by_size(TWO, TWO[2]), goings_by_size(TWO, ((1, 0, 1),))],
            [(1, 3, 3, 0), (1, 3, 3, 0), (1, 2, 0, 0)])
        self.not_usable('sums', goings_by_size, EVEN, ((1, 1, 0),))

    def test_losses_against_all_sums(self):
        for book in few_places() + small_books(most_words=700, each=4):
            small = Small(book)
            self.same(losses_by_size(book), tuple(
                sum(small.told_back(lot) == lot for lot in combinations(range(book[1]), many))
                for many in range(book[1] + 1)))

    def test_losses_of_larger_books(self):
        chance = Random(67)
        for prime, size, many in ((2, 9, 4), (13, 8, 5), (7, 10, 6)):
            book = random_book(chance, prime, size, many)
            self.same(losses_by_size(book), tuple(
                sum(is_mended(book, lot) for lot in combinations(range(size), many))
                for many in range(size + 1)))
        # Any six of ten places tell all the others.
        self.same(losses_by_size(by_powers(13, 10, 6)), (1, 10, 45, 120, 210, 0, 0, 0, 0, 0, 0))
        self.same(losses_by_size((13, 10, ())), (1,) + (0,) * 10)
        twelve = losses_by_size(powers_book(13, 2, 4, 8))
        self.same([len(twelve), twelve[:3], twelve[5:]], [13, (1, 12, 54), (0,) * 8])

    def test_goings_against_one_by_one(self):
        chance = Random(68)
        for book in few_places()[::2] + small_books(most_words=700, each=4):
            sums = Small(book).sums
            for some in ((), book[2], book[2] + book[2][:1], tuple(chance.choices(sums, k=3)) if sums else ()):
                self.same(goings_by_size(book, some), tuple(
                    sum(mended_by(some, lot) for lot in combinations(range(book[1]), many))
                    for many in range(book[1] + 1)))

    def test_goings_of_larger_books(self):
        chance = Random(69)
        for prime, size, many in ((2, 10, 6), (13, 8, 5)):
            book = random_book(chance, prime, size, many)
            for sums in (book[2], base_sums(book), book[2][:2]):
                self.same(goings_by_size(book, sums), tuple(
                    sum(is_mended_by(book, sums, lot) for lot in combinations(range(size), many))
                    for many in range(size + 1)))

    def test_sums_that_the_book_has_not_itself(self):
        self.same(goings_by_size(TWO, ((1, 0, 1), (1, 0, 1))), (1, 2, 0, 0))
        self.same(goings_by_size(EVEN, ((2, 2, 2),)), (1, 3, 0, 0))
        self.same(goings_by_size(PAIRS, ((1, 1, 1, 1),)), (1, 4, 0, 0, 0))
        self.same(goings_by_size(FOUR, ((1, 0, 2, 2),)), (1, 3, 0, 0, 0))

    def test_one_word_alone(self):
        self.same(losses_by_size(ALONE), (1, 1))
        self.same(losses_by_size((3, 2, ((1, 1), (1, 2)))), (1, 2, 1))
        self.same(goings_by_size(ALONE, ((1,),)), (1, 1))
        self.same(goings_by_size((3, 2, ((1, 1), (1, 2))), ((1, 1), (1, 2))), (1, 2, 0))
        self.same(goings_by_size((3, 2, ((1, 1), (1, 2))), ((1, 0), (1, 2))), (1, 2, 1))
        self.same(losses_by_size((2, 1, ())), (1, 0))

    def test_wrong_values(self):
        for book in NOT_BOOKS:
            self.not_usable('book', losses_by_size, book)
            self.not_usable('book', goings_by_size, book, ())
            self.not_usable('book', goings_by_size, book, None)
        for sums in [thing for thing in ODD if thing != ()] + [
                0, (0,), (1, 1, 1), [(1, 1, 1)], ([1, 1, 1],), ((1, 1),), ((1, 1, 1, 1),), ((0, 0, 0),),
                ((1, 1, True),), ((1, 1, 4),), ((1, 1, 1), (1, 1, 0)), ((1, 1, 1), None)]:
            before = deepcopy(sums)
            self.not_usable('sums', goings_by_size, EVEN, sums)
            self.assertEqual(sums, before)

    def test_by_name_in_any_order(self):
        self.same(losses_by_size(book=EVEN), (1, 3, 0, 0))
        self.same(goings_by_size(sums=((2, 2, 2),), book=EVEN), (1, 3, 0, 0))


class ConsequencesTest(unittest.TestCase):
    def test_of_57(self):
        chance = Random(70)
        large = [random_book(chance, prime, 9, many) for prime in (2, 13) for many in (3, 5, 6)]
        for book in few_places()[::3] + small_books(most_words=250) + [LATE, TWO] + large:
            size, told, losses = book[1], told_signs(book), losses_by_size(book)
            whole = [len([lot for lot in all_lots(size) if len(lot) == many]) for many in range(size + 1)]
            self.assertEqual(losses[0], 1)
            self.assertEqual(losses[size - told + 1:], (0,) * told)
            apart = apart_of(book)
            if apart is not None:
                self.assertEqual(list(losses[:apart]), whole[:apart])
                self.assertLess(losses[apart], whole[apart])
            else:
                self.assertEqual(list(losses), whole)
            some, below = (), None
            for numbers in book[2] + base_sums(book):
                some = (*some, numbers)
                goings = goings_by_size(book, some)
                self.assertEqual(goings[0], 1)
                self.assertTrue(all(one <= most for one, most in zip(goings, losses)))
                if below is not None:
                    self.assertTrue(all(one <= more for one, more in zip(below, goings)))
                below = goings

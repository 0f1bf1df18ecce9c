import unittest
from random import Random

from faults import Small, loss_fault
from helpers import (
    ALONE, EVEN, FREE, NOT_BOOKS, ODD, PAIRS, Raising, all_lots, by_powers, few_places, random_book,
    small_books)
from mendfew.losschecker import lets_loss
from mendfew.losses import told_back
from mendfew.losspapers import loss_paper


class LossPapersTest(Raising, unittest.TestCase):
    def plain(self, book, lost, paper):
        """Entries of tuples, strings and integers that are no bools."""
        self.assertIs(type(paper), tuple)
        self.assertEqual(len(paper), len(lost))
        back = told_back(book, lost)
        for place, entry in zip(lost, paper):
            self.assertIs(type(entry), tuple)
            self.same(entry[0], 'told' if place in back else 'alike')
            self.assertEqual(len(entry), 2 if place in back else 3)
            for row in entry[1:]:
                self.assertIs(type(row), tuple)
                self.assertEqual({type(number) for number in row}, {int})

    def test_all_lots_of_all_books_of_few_places(self):
        for book in few_places() + small_books(most_words=250, each=3):
            small = Small(book)
            for lost in all_lots(book[1]):
                paper = loss_paper(book, lost)
                self.plain(book, lost, paper)
                self.assertIsNone(loss_fault(small, lost, paper))

    def test_no_place_and_all_places(self):
        for book in (EVEN, PAIRS, FREE, ALONE):
            self.same(loss_paper(book, ()), ())
        self.same(loss_paper(ALONE, (0,)), (('told', (1,)),))
        self.same([entry[0] for entry in loss_paper(FREE, (0, 1))], ['alike', 'alike'])

    def test_ten_places(self):
        chance = Random(39)
        books = [random_book(chance, prime, 10, many) for prime in (2, 3, 7, 13) for many in (1, 3, 6)]
        books += [by_powers(13, 10, told) for told in (1, 5, 9)] + [by_powers(13, 12, 6), (13, 10, ())]
        for book in books:
            for many in range(0, book[1] + 1, 2):
                lost = tuple(sorted(chance.sample(range(book[1]), many)))
                paper = loss_paper(book, lost)
                self.plain(book, lost, paper)
                self.same(lets_loss(book, lost, paper), told_back(book, lost))

    def test_wrong_values(self):
        for book in NOT_BOOKS:
            self.not_usable('book', loss_paper, book, ())
            self.not_usable('book', loss_paper, book, None)
        for lost in [thing for thing in ODD if thing != ()] + [
                0, (3,), (1, 0), (0, 0), (0, 3), [0, 1], (0, True), (False, 1), ('0',)]:
            self.not_usable('lost', loss_paper, EVEN, lost)

    def test_by_name_in_any_order(self):
        self.same(loss_paper(lost=(2,), book=PAIRS)[0], ('told', (0, 0, 1, 1)))
        self.same(loss_paper(book=PAIRS, lost=(2,))[0], ('told', (0, 0, 1, 1)))

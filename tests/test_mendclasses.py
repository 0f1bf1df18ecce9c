import unittest
from copy import deepcopy
from random import Random

from faults import Small, loss_fault
from helpers import (
    ALONE, EVEN, FOUR, FREE, NOT_BOOKS, ODD, PAIRS, Raising, all_lots, few_places, random_book,
    small_books, words_by_all)
from mendfew.bookclasses import Book
from mendfew.booktexts import lot_text
from mendfew.goings import goings
from mendfew.losses import told_back
from mendfew.mendclasses import Burst, Loss
from mendfew.mending import filled
from mendfew.readings import reads_for

RING = (5, 4, ((1, 1, 1, 0), (0, 1, 1, 1)))
NOT_LOTS = [0, (3,), (1, 0), (0, 0), (0, 3), [0, 1], (0, True), (False, 1), ('0',), ((0,),)]


class Derived(Loss):
    """A class of a caller, below Loss."""


class Named(Loss):
    """A class of a caller that is made of other things."""

    def __init__(self, name):
        super().__init__(PAIRS, (0, 1, 2))
        self.name = name


def made(book, lost):
    """The loss, made in each of the ways there are."""
    ways = [Loss(book, lost), Loss(lost=lost, book=book), Derived(book, lost)]
    if lost and lost == tuple(range(lost[0], lost[-1] + 1)):
        ways += [Burst(book, lost[0], len(lost)), Burst(many=len(lost), first=lost[0], book=book)]
    return ways


class LossTest(Raising, unittest.TestCase):
    def test_examples(self):
        one = Loss(PAIRS, (0, 1, 2))
        self.same(
            [one.back_now, one.gone_now, one[2], one((None, None, None, 1)), (one - 0).back_now,
             (one + 3).back_now, str(one), list(one), 3 in one],
            [(2,), (0, 1), ('told', (0, 0, 1, 1)), (None, None, 1, 1), (1, 2), (), '0 1 2', [0, 1, 2], False])
        self.same(
            [Burst(PAIRS, 0, 3) == one, Burst(PAIRS, 1, 2).back_now, one.reads_for(2), one.goings(PAIRS[2]),
             len(Burst(EVEN, 2, 0))],
            [True, (1, 2), (3,), ((2,),), 0])
        self.not_usable('place', lambda: one + 2)

    def test_what_a_loss_tells(self):
        chance = Random(57)
        for book in few_places()[::9] + small_books(most_words=130) + [RING]:
            for lost in chance.sample(all_lots(book[1]), 2) + [(), tuple(range(book[1])), (0,)]:
                back = told_back(book, lost)
                for one in made(book, lost):
                    self.same(one.book_now, book)
                    self.same(one.lost_now, lost)
                    self.same(one.back_now, back)
                    self.same(one.gone_now, tuple(place for place in lost if place not in back))
                    self.same(list(one), list(lost))
                    self.same([place for place in one], list(lost))
                    self.same(len(one), len(lost))
                    self.same(str(one), lot_text(book, lost))
                    for place in range(-1, book[1] + 1):
                        self.assertIs(place in one, place in lost)
                        self.assertIs(place not in one, place not in lost)
                    self.same(one.goings(book[2]), goings(book, book[2], lost))
                    for place in range(book[1]):
                        self.same(one.reads_for(place), reads_for(book, place, lost))

    def test_entries(self):
        for book in few_places()[::9] + small_books(most_words=130):
            small = Small(book)
            for lost in all_lots(book[1]):
                for one in made(book, lost):
                    paper = tuple(one[place] for place in one)
                    self.assertIsNone(loss_fault(small, lost, paper))
                    for entry in paper:
                        self.same(entry, deepcopy(entry))
                        self.assertIs(type(entry), tuple)
        for one in made(PAIRS, (0, 1)) + [Named('x') - 2]:
            for place in ODD + [2, 3, 4, -2, '0', (0,), slice(0, 1), one]:
                self.not_usable('place', lambda: one[place])
        self.not_usable('place', lambda: Loss(FREE, ())[0])

    def test_filled(self):
        for book in (EVEN, PAIRS, FREE, FOUR, ALONE):
            for lost in all_lots(book[1]):
                for one in made(book, lost):
                    for word in words_by_all(book)[:9]:
                        signs = tuple(None if place in lost else sign for place, sign in enumerate(word))
                        self.same(one(signs), filled(book, signs))
                        self.same(one(signs=signs), filled(book, signs))
        one = Loss(PAIRS, (0, 2))
        self.same(one((None, 1, None, 0)), (1, 1, 0, 0))
        for signs in ODD + [
                0, (), (1, 1, 0, 0), (None, 1, 0, 0), (1, 1, None, 0), (None, None, None, 0), (None,) * 4,
                (1, None, 0, None), (None, 2, None, 0), (None, -1, None, 0), (None, True, None, 0),
                (None, 1, None, False), [None, 1, None, 0], (None, 1, None), (None, 1, None, 0, 0),
                ('-', 1, '-', 0), (None, (1,), None, 0)]:
            self.not_usable('signs', one, signs)
        # Signs that no word has.
        self.not_usable('signs', Loss(PAIRS, (2,)), (1, 0, None, 0))
        self.not_usable('signs', Loss(PAIRS, ()), (1, 0, 0, 0))
        self.same(Loss(PAIRS, ())((1, 1, 0, 0)), (1, 1, 0, 0))

    def test_places_in_it(self):
        for one in made(PAIRS, (0, 1)):
            for thing in ODD + [2, 3, 4, '0', (0,), (0, 1), [0], one]:
                self.assertIs(thing in one, False)
        self.assertIs(0 in Loss(EVEN, ()), False)
        self.assertIs(False in Loss(EVEN, (0, 1, 2)), False)
        self.assertIs(True in Loss(EVEN, (0, 1, 2)), False)

    def test_equal(self):
        for one in made(PAIRS, (0, 1, 2)) + [Named('a')]:
            for other in made(PAIRS, (0, 1, 2)) + [Named('b')]:
                self.assertIs(one == other, True)
                self.assertIs(one != other, False)
        unlike = [Loss(PAIRS, (0, 1)), Loss(PAIRS, ()), Burst(PAIRS, 1, 3), Derived(PAIRS, (0, 1, 3)),
                  Loss((3, 4, PAIRS[2]), (0, 1, 2)), Loss((2, 4, PAIRS[2][::-1]), (0, 1, 2)),
                  Loss((2, 5, ()), (0, 1, 2)), (0, 1, 2), PAIRS, '0 1 2', None, True, 3, [0, 1, 2],
                  (PAIRS, (0, 1, 2)), Book.of(PAIRS)]
        for one in made(PAIRS, (0, 1, 2)) + [Named('a')]:
            for other in unlike:
                self.assertIs(one == other, False)
                self.assertIs(other == one, False)
                self.assertIs(one != other, True)
        self.assertIs(Burst(EVEN, 2, 0) == Burst(EVEN, 1, 0), True)
        self.assertIs(Burst(EVEN, 2, 0) == Loss(EVEN, ()), True)

    def test_one_more_and_one_less(self):
        for one in made(PAIRS, (1, 2)) + [Named('a') - 0, Loss(PAIRS, (0, 1, 2)) - 0]:
            for new, lost in ((one + 0, (0, 1, 2)), (one + 3, (1, 2, 3)), (one - 1, (2,)), (one - 2, (1,)),
                              (one - 1 - 2, ()), (one + 3 + 0, (0, 1, 2, 3))):
                self.assertIs(type(new), Loss)
                self.same(new.lost_now, lost)
                self.same(new.book_now, PAIRS)
            self.same(one.lost_now, (1, 2))
            for place in ODD + [1, 2, 4, '0', (0,), one]:
                self.not_usable('place', lambda: one + place)
            for place in ODD + [0, 3, 4, '1', (1,), one]:
                self.not_usable('place', lambda: one - place)
        self.same((Loss((2, 12, ()), (9, 11)) + 10).lost_now, (9, 10, 11))

    def test_in_place_leaves_the_first(self):
        for first in made(PAIRS, (0, 1)) + [Named('a') - 2]:
            one = first
            one += 2
            self.same(one.lost_now, (0, 1, 2))
            self.assertIs(type(one), Loss)
            one -= 0
            self.same(one.lost_now, (1, 2))
            self.same(first.lost_now, (0, 1))
            self.same(first.book_now, PAIRS)

    def test_never_changes(self):
        for one in made(PAIRS, (0, 1)):
            for name in ('book_now', 'lost_now', 'back_now', 'gone_now'):
                with self.assertRaises(AttributeError):
                    setattr(one, name, ())
            with self.assertRaises(TypeError):
                one[0] = ('told', (1, 1, 0, 0))
            self.same([one.book_now, one.lost_now], [PAIRS, (0, 1)])

    def test_reads_and_goings(self):
        for one in made(RING, (0, 1)):
            self.same(one.reads_for(0, (1, 1, 1, 9)), (3,))
            self.same(one.reads_for(costs=(1, 1, 1, 9), place=0), (3,))
            self.same(one.reads_for(2, (1, 1, 0, 9)), (2,))
            self.same(one.reads_for(place=1), (2, 3))
            self.same(one.goings(RING[2]), ((1,), (0,)))
            self.same(one.goings(sums=()), ())
            for place in ODD + [4, (0,), '0']:
                self.not_usable('place', one.reads_for, place)
                self.not_usable('place', one.reads_for, place, ())
            for costs in [thing for thing in ODD if thing is not None] + [
                    0, (), (1, 1, 1), (1, 1, 1, True), [1, 1, 1, 1]]:
                self.not_usable('costs', one.reads_for, 0, costs)
            for sums in [thing for thing in ODD if thing != ()] + [
                    0, [(1, 1, 1, 0)], ((1, 1, 0, 0),), ([1, 1, 1, 0],), ((1, True, 1, 0),), ((0, 0, 0, 0),)]:
                self.not_usable('sums', one.goings, sums)
        self.same(Loss(EVEN, (0, 1)).reads_for(0), None)

    def test_errors_of_making(self):
        for kind in (Loss, Derived):
            for book in NOT_BOOKS + [Book.of(EVEN)]:
                self.not_usable('book', kind, book, ())
                self.not_usable('book', kind, book, None)
            for lost in [thing for thing in ODD if thing != ()] + NOT_LOTS:
                self.not_usable('lost', kind, EVEN, lost)

    def test_defined_in_the_class_itself(self):
        for name in ('__init__', 'book_now', 'lost_now', 'back_now', 'gone_now', '__getitem__', '__call__',
                     '__contains__', '__len__', '__iter__', '__str__', '__eq__', 'reads_for', 'goings',
                     '__add__', '__sub__'):
            self.assertIn(name, vars(Loss))
        for name in ('__init__', 'first_now'):
            self.assertIn(name, vars(Burst))
        self.assertEqual(Burst.__bases__, (Loss,))


    def test_handed_in_stays(self):
        handed = [PAIRS, (0, 2), (None, 1, None, 0), (1, 1, 1, 9), PAIRS[2], [0, 1], [1, None, 1], ([1, 1, 0, 0],)]
        before = deepcopy(handed)
        book, lost, signs, costs, sums, places, late, rows = handed
        one = Loss(book, lost)
        one(signs), one.reads_for(0, costs), one.goings(sums), one + 1, one - 0, one[0], one == places
        self.not_usable('lost', Loss, book, places)
        self.not_usable('signs', one, late)
        self.not_usable('costs', one.reads_for, 0, places)
        self.not_usable('sums', one.goings, rows)
        self.not_usable('place', lambda: one[places])
        self.not_usable('place', lambda: one + places)
        self.assertIs(places in one, False)
        self.same(handed, before)


class BurstTest(Raising, unittest.TestCase):
    def test_places(self):
        for first in range(4):
            for many in range(5 - first):
                one = Burst(PAIRS, first, many)
                self.same(one.first_now, first)
                self.same(one.lost_now, tuple(range(first, first + many)))
                self.same(one.book_now, PAIRS)
                self.assertIsInstance(one, Loss)
        self.same(str(Burst(EVEN, 2, 0)), '-')
        self.same(Burst(EVEN, 2, 0).back_now, ())
        self.same(list(Burst(EVEN, 2, 0)), [])
        self.same(Burst((2, 100, ()), 50, 50).lost_now, tuple(range(50, 100)))
        with self.assertRaises(AttributeError):
            Burst(EVEN, 0, 1).first_now = 1

    def test_wrong_values(self):
        for book in NOT_BOOKS + [Book.of(EVEN)]:
            self.not_usable('book', Burst, book, 0, 1)
            self.not_usable('book', Burst, book, None, None)
        for first in ODD + [3, 4, '0', (0,)]:
            self.not_usable('first', Burst, EVEN, first, 0)
            self.not_usable('first', Burst, EVEN, first, None)
        for many in ODD + [3, 4, '1', (1,)]:
            self.not_usable('many', Burst, EVEN, 1, many)
        self.not_usable('many', Burst, EVEN, 0, 4)
        self.not_usable('many', Burst, EVEN, 2, 2)
        self.same(len(Burst(EVEN, 0, 3)), 3)


class ConsequencesTest(unittest.TestCase):
    def test_of_45(self):
        chance = Random(58)
        books = small_books(most_words=250) + [random_book(chance, prime, 10, 5) for prime in (2, 13)]
        for book in books:
            for lost in chance.sample(all_lots(book[1]), 2) + [()]:
                one = Loss(book, lost)
                self.assertEqual(set(one.back_now) & set(one.gone_now), set())
                self.assertEqual(tuple(sorted(one.back_now + one.gone_now)), one.lost_now)
                for place in range(book[1]):
                    if place not in one:
                        self.assertEqual(one + place - place, one)
                        self.assertLessEqual(set((one + place).back_now) - {place}, set(one.back_now))
                    else:
                        self.assertEqual(one - place + place, one)

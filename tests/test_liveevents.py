import unittest
from copy import deepcopy
from random import Random

from helpers import BIG, EVEN, FREE, NOT_BOOKS, ODD, PAIRS, Raising
from mendfew.bookclasses import Book
from mendfew.liveevents import is_event
from shelves import Model, event_form, some_event, spoiled_event


class EventsTest(Raising, unittest.TestCase):
    def judged(self, book, thing, told):
        before = deepcopy(thing)
        self.assertIs(is_event(book, thing), told)
        self.assertEqual(thing, before)

    def test_events(self):
        for thing in (
                ('lose', 0), ('lose', 3), ('lose', BIG), ('mend', 0), ('mend', 12), ('mend', 10 ** 59),
                ('going',), ('write', (0,)), ('write', (1, 1, 0)), ('write', (2,) * 100), ('widen', (0, 2)),
                ('widen', (0,)), ('widen', (1,) * 100), ('mark', 'm'), ('mark', 'abcdefgh'), ('mark', 'going'),
                ('mark', 'zzzzzzzz'), ('mark', 'lose')):
            self.judged(EVEN, thing, True)
        # No matter how many places the book has, and whether it is possible.
        self.judged(FREE, ('write', (0, 1, 1)), True)
        self.judged((13, 2, ()), ('write', (12, 12, 12)), True)
        self.judged((2, 2, ((1, 1),)), ('write', (1, 0)), True)

    def test_places(self):
        for first in ('lose', 'mend'):
            for place in ODD + ['0', (0,), [0], -2, -BIG]:
                self.judged(EVEN, (first, place), place == BIG)
            for thing in ((first,), (first, 0, 0), (first, 0, None), [first, 0], (first, (0,)), first):
                self.judged(EVEN, thing, False)

    def test_numbers(self):
        for first in ('write', 'widen'):
            for row in ODD + [
                    (), (3,), (0, 3), (0, -1), (True,), (1, True), (False, 0), [0], [1, 1], '0', 'going',
                    (0,) * 101, (2,) * 5000, ((0,),), ([0],), (0, None), ('0',), 0, 1]:
                self.judged(EVEN, (first, row), False)
            for thing in ((first,), (first, (0,), (0,)), (first, 0, 0), [first, (0,)], (first, 1, 1, 1)):
                self.judged(EVEN, thing, False)
            # Below the prime of the book.
            self.judged(FREE, (first, (1, 1)), True)
            self.judged(FREE, (first, (1, 2)), False)
            self.judged((999983, 1, ()), (first, (999982,)), True)
            self.judged((999983, 1, ()), (first, (999983,)), False)

    def test_names(self):
        for name in ('a', 'z', 'ab', 'abcdefgh', 'mmmmmmmm'):
            self.judged(EVEN, ('mark', name), True)
        for name in [thing for thing in ODD if thing not in ('a', 'sum')] + [
                '', 'abcdefghi', 'A', 'aB', 'a1', '1', 'a b', ' a', 'a ', 'a\n', '\n', 'a-b', 'a_b', '{', '`',
                ('a',), ['a'], 0, 'a' * 4000]:
            self.judged(EVEN, ('mark', name), False)
        for thing in (('mark',), ('mark', 'a', 'b'), ['mark', 'a'], ('mark', 'a', ()), 'mark'):
            self.judged(EVEN, thing, False)

    def test_going(self):
        self.judged(EVEN, ('going',), True)
        for thing in ('going', ['going'], ('going', ()), ('going', 0), ('going', None), (('going',),), ('Going',)):
            self.judged(EVEN, thing, False)

    def test_other_values(self):
        for thing in NOT_BOOKS + [
                ('undo',), ('Lose', 0), ('LOSE', 0), ('lose ', 0), ('', 0), (0, 'lose'), (None, 0), (True, 0),
                (('lose',), 0), ('live', EVEN, (0, 0, 0)), (('lose', 0),), [('lose', 0)], Book.of(EVEN)]:
            self.judged(EVEN, thing, False)

    def test_any_spoiled_event(self):
        chance = Random(71)
        seen = set()
        for _ in range(4000):
            book = chance.choice((EVEN, PAIRS, FREE, (5, 4, ((1, 1, 1, 0),))))
            event = spoiled_event(chance, some_event(chance, Model(book, (0,) * book[1])))
            told = event_form(book[0], event)
            self.judged(book, event, told)
            seen.add(told)
        self.assertEqual(seen, {True, False})

    def test_wrong_values(self):
        for book in NOT_BOOKS + [Book.of(EVEN)]:
            self.not_usable('book', is_event, book, ('going',))
            self.not_usable('book', is_event, book, None)

    def test_by_name_in_any_order(self):
        self.same(is_event(thing=('going',), book=EVEN), True)
        self.same(is_event(book=EVEN, thing=('going', 1)), False)

import unittest
from copy import deepcopy
from random import Random

from faults import Small, nought_fault, spoiled
from helpers import (
    ALONE, BIG, EVEN, FREE, NOT_BOOKS, ODD, PAIRS, Raising, few_places, small_books)
from mendfew.apartness import apart_of
from mendfew.bookparts import base_words
from mendfew.crossed import crossed_book
from mendfew.noughtchecker import lets_noughts
from mendfew.powerclasses import Powered
from mendfew.powers import class_numbers, powers_book

BOOK = powers_book(7, 2, 2, 3)
NUMBERS = (1, 2, 4, 3, 6, 5)
GOOD = ('noughts', NUMBERS, (0, 1, 3))


class NoughtCheckerTest(Raising, unittest.TestCase):
    def refused(self, word, at, book, thing):
        before = deepcopy(thing)
        self.raises('InvalidPaper', {'word': word, 'at': at}, lets_noughts, book, thing)
        self.assertEqual(thing, before)

    def test_examples(self):
        it = Powered(7, 2, 2, 3)
        self.same(
            [lets_noughts(it.book_now, it.noughts_paper()),
             lets_noughts(crossed_book(7, 2, 3, 1, 2), ('noughts', class_numbers(7, 6, 1), (0, 4)))],
            [3, 2])
        self.refused('number', 2, EVEN, ('noughts', (1, 2, 2), (0, 1)))

    def test_shape(self):
        for thing in ODD + [
                0, (), 'noughts', ['noughts'], ('noughts',), GOOD[:2], GOOD + ((),), list(GOOD), GOOD[1:],
                ('Noughts', *GOOD[1:]), (('noughts',), *GOOD[1:]), (None, *GOOD[1:]), (True, *GOOD[1:]),
                ('price', *GOOD[1:]), ('noughts', list(NUMBERS), (0, 1, 3)), ('noughts', NUMBERS, [0, 1, 3]),
                ('noughts', None, (0, 1)), ('noughts', NUMBERS, None), ('noughts', NUMBERS, 0),
                ('noughts', '124365', (0, 1)), ('noughts', NUMBERS, ()), ('noughts', (), ())]:
            self.refused('shape', -1, BOOK, thing)

    def test_many(self):
        for numbers in ((), NUMBERS[:5], NUMBERS + (1,), (0,), (None,) * 5, (1,) * 7):
            self.refused('many', -1, BOOK, ('noughts', numbers, (0, 1, 3)))
            self.refused('many', -1, BOOK, ('noughts', numbers, (None,)))

    def test_numbers(self):
        for value in ODD + [0, 7, 8, -1, -6, '1', (1,), [1], 10 ** 60]:
            for at in (0, 3, 5):
                numbers = (*NUMBERS[:at], value, *NUMBERS[at + 1:])
                self.refused('number', at, BOOK, ('noughts', numbers, (0, 1, 3)))
                self.refused('number', at, BOOK, ('noughts', (*NUMBERS[:at], *(value,) * (6 - at)), (9,)))
        self.refused('number', 1, BOOK, ('noughts', (1, 1, 4, 3, 6, 5), (0, 1, 3)))
        self.refused('number', 5, BOOK, ('noughts', (1, 2, 4, 3, 6, 1), (0, 1, 3)))
        self.refused('number', 3, BOOK, ('noughts', (1, 2, 4, 4, 4, 0), (0, 1, 3)))
        # Two faults: the first element, whatever is wrong with it.
        self.refused('number', 2, BOOK, ('noughts', (1, 2, 2, 7, True, 5), (6,)))
        self.refused('number', 2, BOOK, ('noughts', (1, 2, 7, 2, True, 5), (6,)))
        self.refused('number', 0, BOOK, ('noughts', (True, 1, 2, 3, 4, 5), (0, 1, 3)))

    def test_used(self):
        for value in ODD + [6, 7, -1, '0', (0,), [0], BIG]:
            self.refused('used', 0, BOOK, ('noughts', NUMBERS, (value,)))
            self.refused('used', 0, BOOK, ('noughts', NUMBERS, (value, value)))
            self.refused('used', 2, BOOK, ('noughts', NUMBERS, (0, 1, value)))
            self.refused('used', 2, BOOK, ('noughts', NUMBERS, (0, 1, value, 0)))
        self.refused('used', 1, BOOK, ('noughts', NUMBERS, (0, 0, 1, 3)))
        self.refused('used', 2, BOOK, ('noughts', NUMBERS, (0, 3, 1)))
        self.refused('used', 3, BOOK, ('noughts', NUMBERS, (0, 1, 3, 3)))
        self.refused('used', 1, BOOK, ('noughts', NUMBERS, (3, 1, 9)))
        self.refused('used', 1, BOOK, ('noughts', NUMBERS, (1, 6, 0)))
        self.refused('used', 1, BOOK, ('noughts', NUMBERS, (0, True, 3)))

    def test_word(self):
        base = base_words(BOOK)
        self.assertEqual(len(base), 3)
        self.refused('word', 0, BOOK, ('noughts', NUMBERS, (0,)))
        self.refused('word', 0, BOOK, ('noughts', NUMBERS, (0, 1, 2)))
        self.refused('word', 0, BOOK, ('noughts', NUMBERS, (1, 3)))
        self.refused('word', 0, BOOK, ('noughts', NUMBERS[::-1], (2, 4, 5)))
        free = (5, 2, ())
        self.refused('word', 0, free, ('noughts', (1, 2), (0,)))
        self.refused('word', 0, free, ('noughts', (1, 2), (1,)))

    def test_a_later_word(self):
        seen = set()
        chance = Random(64)
        for book in small_books(most_words=130, each=9) + [(7, 2, ()), (5, 2, ()), (7, 3, ())]:
            base, small = base_words(book), Small(book)
            for _ in range(30):
                if book[0] <= book[1]:
                    continue
                numbers = tuple(chance.sample(range(1, book[0]), book[1]))
                used = tuple(sorted(chance.sample(range(book[1]), chance.randrange(1, book[1] + 1))))
                fault = nought_fault(small, base, ('noughts', numbers, used))
                if fault is None:
                    self.same(lets_noughts(book, ('noughts', numbers, used)), book[1] - used[-1])
                else:
                    self.refused(*fault, book, ('noughts', numbers, used))
                    seen.add(fault)
        self.assertTrue({('word', 0), ('word', 1)} <= seen, seen)

    def test_more_exponents_than_needed(self):
        for used, least in (((0, 1, 3), 3), ((0, 1, 2, 3), 3), ((0, 1, 3, 4), 2), ((0, 1, 2, 3, 4, 5), 1)):
            self.same(lets_noughts(BOOK, ('noughts', NUMBERS, used)), least)

    def test_any_numbers(self):
        # Of all powers below the size each word is a sum, whichever the numbers.
        for numbers in ((1, 2, 3, 4, 5, 6), (6, 5, 4, 3, 2, 1), (3, 1, 2, 6, 4, 5)):
            self.same(lets_noughts(BOOK, ('noughts', numbers, (0, 1, 2, 3, 4, 5))), 1)
        self.same(lets_noughts((3, 2, ()), ('noughts', (2, 1), (0, 1))), 1)
        self.same(lets_noughts((2, 1, ()), ('noughts', (1,), (0,))), 1)
        self.same(lets_noughts((999983, 2, ((1, 999982),)), ('noughts', (999982, 1), (0,))), 2)

    def test_books_with_no_word_but_noughts(self):
        self.same(lets_noughts(ALONE, ('noughts', (2,), (0,))), 1)
        none = (7, 3, ((1, 0, 0), (0, 1, 0), (0, 0, 3)))
        for used, least in (((0,), 3), ((1,), 2), ((2,), 1), ((0, 2), 1), ((0, 1, 2), 1)):
            self.same(lets_noughts(none, ('noughts', (6, 2, 4), used)), least)
        self.refused('shape', -1, none, ('noughts', (6, 2, 4), ()))
        self.refused('used', 0, none, ('noughts', (6, 2, 4), (3,)))

    def test_more_places_than_numbers(self):
        # There are not so many unlike numbers below the prime.
        self.refused('number', 1, FREE, ('noughts', (1, 1), (0, 1)))
        self.refused('number', 2, EVEN, ('noughts', (2, 1, 1), (0, 1)))
        self.refused('number', 1, PAIRS, ('noughts', (1, 1, 1, 1), (0, 1)))

    def test_any_spoiled_paper(self):
        chance = Random(63)
        seen = set()
        books = [book for book in few_places()[::3] + small_books(most_words=250, each=9) if book[0] > book[1]]
        books += [powers_book(7, 1, 2, 2), powers_book(7, 2, 1, 2), powers_book(5, 1, 2, 1)]
        for book in books:
            base, small = base_words(book), Small(book)
            for turn in range(40):
                numbers = tuple(chance.sample(range(1, book[0]), book[1]))
                used = tuple(sorted(chance.sample(range(book[1]), chance.randrange(1, book[1] + 1))))
                paper = ('noughts', numbers, used if turn % 2 else tuple(range(book[1])))
                for _ in range(chance.randrange(3)):
                    paper = spoiled(chance, paper, [0, 1, (None,), 'noughts', True, None, [1], (), (0, 1)])
                fault = nought_fault(small, base, paper)
                if fault is None:
                    told = lets_noughts(book, paper)
                    self.same(told, small.size - max(paper[2]))
                    apart = small.apart()
                    self.assertTrue(apart is None or apart >= told)
                else:
                    self.refused(*fault, book, paper)
                    seen.add(fault[0])
        self.assertEqual(seen, {'shape', 'many', 'number', 'used', 'word'})

    def test_what_is_accepted_is_true(self):
        for told in range(1, 5):
            it = Powered(7, 2, 2, told)
            self.assertLessEqual(lets_noughts(it.book_now, it.noughts_paper()), apart_of(it.book_now))

    def test_wrong_values(self):
        for book in NOT_BOOKS:
            self.not_usable('book', lets_noughts, book, GOOD)
            self.not_usable('book', lets_noughts, book, None)

    def test_by_name_in_any_order(self):
        self.same(lets_noughts(thing=GOOD, book=BOOK), 3)
        self.same(lets_noughts(book=BOOK, thing=GOOD), 3)

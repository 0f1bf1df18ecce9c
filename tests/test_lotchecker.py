import unittest
from copy import deepcopy
from random import Random

from faults import Small, lot_fault, spoiled
from helpers import (
    EVEN, FOUR, NOT_BOOKS, ODD, PAIRS, Raising, all_lots, by_powers, few_places, random_book, small_books)
from mendfew.apartness import apart_of
from mendfew.bookparts import told_signs
from mendfew.fewness import few_of
from mendfew.lotchecker import lets_lot
from mendfew.lotpapers import lot_paper
from mendfew.powers import powers_book
from mendfew.price import price_of
from test_price import NO_PRICE, ROW

GOOD = ('price', (0, 1), (0, 0, 1, 1))


class LotCheckerTest(Raising, unittest.TestCase):
    def refused(self, word, at, book, thing):
        before = deepcopy(thing)
        self.raises('InvalidPaper', {'word': word, 'at': at}, lets_lot, book, thing)
        self.assertEqual(thing, before)

    def test_examples(self):
        self.same(
            [lets_lot(PAIRS, ('price', (0, 1), (0, 0, 1, 1))), lets_lot(ROW, lot_paper(ROW)), lot_paper(FREE)],
            [2, 2, None])
        self.refused('few', -1, PAIRS, ('price', (2,), (1, 1, 0, 0)))
        self.refused('there', 2, PAIRS, ('price', (0, 2), (0, 0, 1, 1)))

    def test_shape(self):
        for thing in ODD + [
                0, (), 'price', ['price'], ('price',), GOOD[:2], GOOD + ((),), list(GOOD), GOOD[1:],
                ('Price', *GOOD[1:]), (('price',), *GOOD[1:]), (None, *GOOD[1:]), (True, *GOOD[1:]),
                ('few', *GOOD[1:]), ('price', [0, 1], GOOD[2]), ('price', GOOD[1], [0, 0, 1, 1]),
                ('price', None, GOOD[2]), ('price', GOOD[1], None), ('price', 0, GOOD[2]), ('price', '01', 'x'),
                ('price', (5,), [0, 0, 1, 1]), ('price', [0, 1], (0, 0, 0, 0))]:
            self.refused('shape', -1, PAIRS, thing)

    def test_lot(self):
        for lot in [thing for thing in ODD if type(thing) is tuple] + [
                (0, 4), (1, 0), (0, 0), (0, 1, 1), (0, True), (False, 1), (0, -1), ('0', '1'), ((0, 1),),
                ([0, 1],), (0, 1, 2, 3, 4), (4,)]:
            if lot == ():
                continue
            self.refused('lot', -1, PAIRS, ('price', lot, GOOD[2]))
            # It is ahead of few, and of whatever is wrong with the word.
            self.refused('lot', -1, PAIRS, ('price', lot, (0, 0, 0, 0)))
            self.refused('lot', -1, PAIRS, ('price', lot, (True,)))

    def test_few(self):
        for lot in ((), (0,), (3,)):
            self.refused('few', -1, PAIRS, ('price', lot, (1, 1, 0, 0)))
            self.refused('few', -1, PAIRS, ('price', lot, (1, 0, 0, 0)))
            self.refused('few', -1, PAIRS, ('price', lot, (1, True, 0)))
        self.same(lets_lot(PAIRS, ('price', (2, 3), (1, 1, 0, 0))), 2)
        # One sign told by one other: the empty lot is enough.
        same = (3, 3, ((1, 2, 0), (1, 0, 2)))
        self.same(lets_lot(same, ('price', (), (1, 1, 1))), 3)
        self.refused('there', 1, same, ('price', (1,), (2, 2, 2)))

    def test_signs(self):
        for signs in [thing for thing in ODD if type(thing) is tuple] + [
                (), (0, 0, 0, 0), (0, 0, 1), (0, 0, 1, 1, 0), (0, 0, 1, 0), (0, 0, 3, 3), (0, 0, True, 1),
                (0, 0, 1, True), (False, 0, 1, 1), ('0', '0', '1', '1'), (0, 0, [1], 1), (0, 0, -1, -1)]:
            self.refused('signs', -1, PAIRS, ('price', (0, 1), signs))
            self.refused('signs', -1, PAIRS, ('price', (0, 1, 2, 3), signs))

    def test_there(self):
        for lot, signs, place in (
                ((0, 1), (1, 1, 0, 0), 0), ((1, 2), (1, 1, 0, 0), 1), ((0, 1, 2, 3), (0, 0, 1, 1), 2),
                ((0, 3), (0, 0, 1, 1), 3), ((0, 1, 3), (1, 1, 1, 1), 0), ((2, 3), (1, 1, 1, 1), 2)):
            self.refused('there', place, PAIRS, ('price', lot, signs))

    def test_more_places_than_needed(self):
        same = (2, 5, ((1, 1, 0, 0, 0), (0, 0, 1, 1, 0), (0, 0, 1, 0, 1)))
        self.same([told_signs(same), few_of(same)], [2, 1])
        for lot in ((0, 1), (2, 3), (2, 3, 4), (3, 4)):
            signs = (1, 1, 0, 0, 0) if 0 not in lot else (0, 0, 1, 1, 1)
            self.same(lets_lot(same, ('price', lot, signs)), 3)

    def test_any_spoiled_paper(self):
        chance = Random(61)
        seen = set()
        for book in few_places()[::3] + small_books(most_words=250, each=6) + [ROW, EVEN, FOUR, PAIRS]:
            small = Small(book)
            if small.price_lot() is None:
                continue
            lots = all_lots(book[1])
            parts = small.words[:6] + lots[:9] + [(None,), 'price', 0, True, None, [1], [0, 1], ()]
            for turn in range(40):
                paper = lot_paper(book)
                if turn % 2:
                    paper = ('price', chance.choice(lots), chance.choice(small.words))
                for _ in range(chance.randrange(3)):
                    paper = spoiled(chance, paper, parts)
                fault = lot_fault(small, paper)
                if fault is None:
                    self.same(lets_lot(book, paper), small.size - small.price_lot())
                else:
                    self.refused(*fault, book, paper)
                    seen.add(fault[0])
        self.assertEqual(seen, {'shape', 'lot', 'few', 'signs', 'there'})

    def test_books_without_a_price(self):
        for book in NO_PRICE:
            for thing in (GOOD, ('price', (), (0,) * book[1]), None, ('price', (0,), (1, 0))):
                self.not_usable('book', lets_lot, book, thing)

    def test_wrong_values(self):
        for book in NOT_BOOKS:
            self.not_usable('book', lets_lot, book, GOOD)
            self.not_usable('book', lets_lot, book, None)

    def test_by_name_in_any_order(self):
        self.same(lets_lot(thing=GOOD, book=PAIRS), 2)
        self.same(lets_lot(book=PAIRS, thing=GOOD), 2)

    def test_handed_in_stays(self):
        for thing in (GOOD, list(GOOD), ('price', [0, 1], (0, 0, 1, 1)), ('price', (0, 1), [0, 0, 1, 1])):
            before = deepcopy(thing)
            try:
                lets_lot(PAIRS, thing)
            except ValueError:
                pass
            self.same(thing, before)


class ConsequencesTest(unittest.TestCase):
    def test_of_49(self):
        chance = Random(62)
        large = [random_book(chance, prime, 10, many) for prime in (2, 3, 7, 13) for many in (2, 4, 6)]
        large += [by_powers(13, 10, told) for told in (1, 5, 9)] + [by_powers(13, 12, 6)]
        large += [powers_book(13, 2, 4, told) for told in (1, 3, 5, 8)]
        for book in few_places() + small_books(most_words=3000, each=4) + large:
            price, apart = price_of(book), apart_of(book)
            if price is None:
                continue
            paper = lot_paper(book)
            self.assertEqual(lets_lot(book, paper), price)
            self.assertLessEqual(apart, price)
            self.assertEqual([paper[2][place] for place in paper[1]], [0] * len(paper[1]))
            told, few = told_signs(book), few_of(book)
            self.assertGreaterEqual(book[1], told - (-told // few))
            self.assertGreaterEqual(apart, 2)


FREE = NO_PRICE[0]

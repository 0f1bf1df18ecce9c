import unittest
from copy import deepcopy
from itertools import combinations
from random import Random

from faults import Small, apart_fault, spoiled
from helpers import (
    ALONE, EVEN, FOUR, FREE, NOT_BOOKS, ODD, PAIRS, Raising, all_lots, cut, few_places, small_books,
    words_by_all)
from mendfew.apartchecker import lets_apart
from mendfew.apartness import apart_of
from mendfew.apartpapers import apart_paper
from mendfew.bookchanges import renumbered
from mendfew.bookparts import told_on, told_signs
from mendfew.errors import InvalidPaper

NONE, ONE = (0, 0, 0, 0), (1, 1, 0, 0)
GOOD = ('pair', NONE, ONE, ((0, 2), (1, 3)))


class ApartCheckerTest(Raising, unittest.TestCase):
    def refused(self, word, at, book, thing):
        before = deepcopy(thing)
        self.raises('InvalidPaper', {'word': word, 'at': at}, lets_apart, book, thing)
        self.assertEqual(thing, before)

    def test_examples(self):
        self.same(
            [lets_apart(PAIRS, ('pair', (0, 0, 0, 0), (1, 1, 0, 0), ((0, 2), (1, 3)))),
             lets_apart((2, 1, ((1,),)), ('alone',)), lets_apart(FOUR, apart_paper(FOUR))],
            [2, None, 3])
        self.refused('open', (0,), PAIRS, ('pair', (0, 0, 0, 0), (1, 1, 0, 0), ((0, 2),)))

    def test_shape(self):
        for thing in ODD + [
                0, (), 'alone', 'pair', ['alone'], ('alone', ()), ('alone', None), ('pair',), GOOD[:3],
                GOOD + ((),), list(GOOD), GOOD[1:], ('Pair', *GOOD[1:]), (('pair',), *GOOD[1:]),
                (None, *GOOD[1:]), ('alone', *GOOD[1:]), (True, *GOOD[1:]), ('few', *GOOD[1:]), (('alone',),),
                ('none',)]:
            self.refused('shape', -1, PAIRS, thing)
            self.refused('shape', -1, ALONE, thing)

    def test_alone(self):
        for book in (ALONE, (3, 2, ((1, 1), (1, 2))), (13, 3, ((1, 0, 0), (0, 1, 0), (5, 5, 5)))):
            self.same(lets_apart(book, ('alone',)), None)
        for book in (EVEN, PAIRS, FREE, FOUR, (2, 1, ())):
            self.refused('more', -1, book, ('alone',))
        self.refused('equal', -1, ALONE, ('pair', (0,), (0,), ((0,),)))
        self.refused('first', -1, ALONE, ('pair', (1,), (0,), ((0,),)))
        self.refused('second', -1, ALONE, ('pair', (0,), (1,), ((0,),)))

    def test_both_words(self):
        for signs in ODD + [0, (), (1, 1, 0), (1, 1, 0, 0, 0), (1, 0, 0, 0), (3, 1, 0, 0), [1, 1, 0, 0],
                            (True, 1, 0, 0), (1, 1, False, 0), ('1', '1', '0', '0')]:
            self.refused('first', -1, PAIRS, ('pair', signs, ONE, GOOD[3]))
            self.refused('first', -1, PAIRS, ('pair', signs, signs, None))
            self.refused('second', -1, PAIRS, ('pair', NONE, signs, GOOD[3]))
            self.refused('second', -1, PAIRS, ('pair', NONE, signs, None))
        for signs in (NONE, ONE, (1, 1, 1, 1)):
            self.refused('equal', -1, PAIRS, ('pair', signs, signs, GOOD[3]))
            self.refused('equal', -1, PAIRS, ('pair', signs, signs, None))
        self.same(lets_apart(PAIRS, ('pair', (1, 1, 1, 1), ONE, GOOD[3])), 2)
        self.same(lets_apart(PAIRS, ('pair', ONE, NONE, GOOD[3])), 2)

    def test_lots(self):
        for lots in [lot for lot in ODD if type(lot) is not tuple] + [0, list(GOOD[3]), {}, 'x']:
            self.refused('lots', -1, PAIRS, ('pair', NONE, ONE, lots))
        for lot in [thing for thing in ODD if thing != ()] + [
                0, (0, 4), (2, 0), (0, 0, 2), [0, 2], (False, 2), (0, -1), (0, '2'), ((0, 2),), (0, True)]:
            self.refused('lot', 0, PAIRS, ('pair', NONE, ONE, (lot, lot)))
            self.refused('lot', 2, PAIRS, ('pair', NONE, ONE, (*GOOD[3], lot)))
        for lot in ((), (0,), (3,), (0, 1), (2, 3)):
            self.refused('tells', 0, PAIRS, ('pair', NONE, ONE, (lot, lot)))
            self.refused('tells', 1, PAIRS, ('pair', NONE, ONE, (GOOD[3][0], lot, None)))

    def test_two_faults_element_by_element(self):
        self.refused('tells', 0, PAIRS, ('pair', NONE, ONE, ((0, 1), (2, 0))))
        self.refused('lot', 0, PAIRS, ('pair', NONE, ONE, ((1, 0), (0, 1))))
        self.refused('tells', 1, PAIRS, ('pair', NONE, ONE, ((0, 2), (0, 1), None)))
        self.refused('lots', -1, PAIRS, ('pair', NONE, ONE, [(1, 0)]))
        self.refused('equal', -1, PAIRS, ('pair', ONE, ONE, ((1, 0),)))
        self.refused('second', -1, PAIRS, ('pair', ONE, (1, 0, 0, 0), [None]))
        self.refused('first', -1, PAIRS, ('pair', (1, 0, 0, 0), (1, 0, 0, 0), None))
        self.refused('shape', -1, PAIRS, ('pairs', (1, 0, 0, 0), (1, 0, 0, 0), None))

    def test_open(self):
        self.refused('open', (0,), PAIRS, ('pair', NONE, ONE, ()))
        self.refused('open', (2,), PAIRS, ('pair', NONE, ONE, ((0, 2), (1, 2))))
        self.refused('open', (0, 1, 2), PAIRS, ('pair', NONE, (1, 1, 1, 1), ()))
        # Four places differ, but words are nearer than that: some three places meet any such lots.
        self.refused('open', (0, 1, 2), PAIRS, ('pair', NONE, (1, 1, 1, 1), GOOD[3] * 3))
        self.refused('open', (0, 1), FOUR, ('pair', NONE, (0, 1, 2, 1), ((0, 1), (0, 2), (1, 2, 3))))
        self.refused('open', (2, 3), FOUR, ('pair', NONE, (0, 1, 2, 1), ((0, 2), (0, 3), (1, 2), (1, 3), (2, 3))))
        lots = tuple(combinations(range(4), 2))
        self.same(lets_apart(FOUR, ('pair', NONE, (0, 1, 2, 1), lots)), 3)

    def test_differing_at_one_place(self):
        self.same(lets_apart(FREE, ('pair', (0, 0), (0, 1), ((0, 1),))), 1)
        self.same(lets_apart(FREE, ('pair', (1, 0), (0, 0), ((0, 1), (0, 1)))), 1)
        self.refused('open', (), FREE, ('pair', (0, 0), (0, 1), ()))
        self.refused('tells', 0, FREE, ('pair', (0, 0), (0, 1), ((),)))
        self.same(lets_apart((5, 1, ()), ('pair', (4,), (2,), ((0,),))), 1)
        self.refused('open', (), (5, 1, ()), ('pair', (4,), (2,), ()))

    def test_all_books_of_few_places(self):
        for book in few_places() + small_books(most_words=3000, each=4):
            self.same(lets_apart(book, apart_paper(book)), apart_of(book))

    def test_any_spoiled_paper(self):
        chance = Random(35)
        seen = set()
        for book in small_books(most_words=250, each=4):
            small = Small(book)
            lots = all_lots(book[1])
            telling = [lot for lot in lots if small.told_on(lot) == small.told]
            parts = small.words[:6] + lots[:9] + [(None,), 'pair', 'alone', ('alone',), 0, True, None, [1]]
            for turn in range(60):
                paper = apart_paper(book)
                if turn % 3 == 0:
                    some = tuple(chance.choice(telling) for _ in range(chance.randrange(5)))
                    paper = ('pair', chance.choice(small.words), chance.choice(small.words), some)
                for _ in range(chance.randrange(3)):
                    paper = spoiled(chance, paper, parts)
                fault = apart_fault(small, paper)
                if fault is None:
                    self.same(lets_apart(book, paper), small.apart())
                else:
                    self.refused(*fault, book, paper)
                    seen.add(fault[0])
        self.assertEqual(
            seen, {'shape', 'more', 'first', 'second', 'equal', 'lots', 'lot', 'tells', 'open'})

    def test_wrong_values(self):
        for book in NOT_BOOKS:
            self.not_usable('book', lets_apart, book, ('alone',))
            self.not_usable('book', lets_apart, book, None)

    def test_by_name_in_any_order(self):
        self.same(lets_apart(thing=GOOD, book=PAIRS), 2)
        self.same(lets_apart(book=PAIRS, thing=GOOD), 2)


class ConsequencesTest(unittest.TestCase):
    def accepts(self, book, thing):
        try:
            lets_apart(book, thing)
        except InvalidPaper:
            return False
        return True

    def test_lots_that_tell_all_signs(self):
        for book in small_books(most_words=130):
            words = words_by_all(book)
            for lot in all_lots(book[1]):
                if told_on(book, lot) == told_signs(book):
                    self.assertEqual(len({cut(word, lot) for word in words}), len(words))

    def test_just_one_of_both_kinds(self):
        for book in few_places():
            words = words_by_all(book)
            lots = tuple(lot for lot in all_lots(book[1]) if told_on(book, lot) == told_signs(book))
            pair = any(self.accepts(book, ('pair', words[0], word, lots)) for word in words)
            self.assertNotEqual(pair, self.accepts(book, ('alone',)))

    def test_they_go_over_to_renumbered_books(self):
        chance = Random(36)
        for book in small_books():
            order = list(range(book[1]))
            chance.shuffle(order)
            paper = apart_paper(book)
            if paper != ('alone',):
                rows = [tuple(row[at] for at in order) for row in paper[1:3]]
                lots = tuple(tuple(sorted(order.index(at) for at in lot)) for lot in paper[3])
                paper = ('pair', *rows, lots)
            self.assertEqual(lets_apart(renumbered(book, tuple(order)), paper), apart_of(book))

    def test_lots_twice_and_more_of_them(self):
        for book in small_books():
            paper = apart_paper(book)
            if paper != ('alone',):
                more = tuple(lot for lot in all_lots(book[1]) if told_on(book, lot) == told_signs(book))
                late = (*paper[:3], more[:50] + paper[3] + paper[3][::-1])
                self.assertEqual(lets_apart(book, late), apart_of(book))

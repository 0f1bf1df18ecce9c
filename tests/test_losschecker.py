import unittest
from copy import deepcopy
from itertools import product
from random import Random

from faults import Small, loss_fault, spoiled
from helpers import (
    ALONE, EVEN, FREE, NOT_BOOKS, ODD, PAIRS, Raising, all_lots, few_places, random_book, small_books,
    sums_by_all, words_by_all)
from mendfew.errors import InvalidPaper
from mendfew.losschecker import lets_loss
from mendfew.losses import told_back
from mendfew.losspapers import loss_paper

BOTH = ('alike', (0, 0, 0, 0), (1, 1, 0, 0))
TOLD = ('told', (0, 0, 1, 1))
LOST = (0, 1, 2)


class LossCheckerTest(Raising, unittest.TestCase):
    def refused(self, word, at, book, lost, thing):
        before = deepcopy(thing)
        self.raises('InvalidPaper', {'word': word, 'at': at}, lets_loss, book, lost, thing)
        self.assertEqual(thing, before)

    def test_examples(self):
        self.same(
            [lets_loss(PAIRS, (0, 1, 2), (BOTH, BOTH, ('told', (0, 0, 1, 1)))),
             lets_loss(EVEN, (0, 1), loss_paper(EVEN, (0, 1)))],
            [(2,), ()])
        self.refused('only', 1, PAIRS, (0, 1), (BOTH, ('told', (1, 1, 0, 0))))
        self.refused('kept', 0, PAIRS, (0,), (BOTH,))

    def test_shape(self):
        for thing in ODD + [0, (), (BOTH,), (BOTH, BOTH), (BOTH, BOTH, TOLD, TOLD), [BOTH, BOTH, TOLD],
                            'told', TOLD, (None, None)]:
            if type(thing) is not tuple or len(thing) != 3:
                self.refused('shape', -1, PAIRS, LOST, thing)
        self.refused('shape', -1, PAIRS, (), (TOLD,))
        self.refused('shape', -1, PAIRS, (), [])
        self.refused('shape', -1, PAIRS, (), None)

    def test_no_lost_place(self):
        for book in (EVEN, PAIRS, FREE, ALONE):
            self.same(lets_loss(book, (), ()), ())

    def test_all_places_lost(self):
        self.same(lets_loss(ALONE, (0,), (('told', (2,)),)), (0,))
        self.same(lets_loss(FREE, (0, 1), (('alike', (0, 0), (1, 0)), ('alike', (1, 0), (1, 1)))), ())
        self.same(lets_loss(FREE, (0, 1), (('alike', (0, 0), (1, 1)),) * 2), ())

    def test_entries(self):
        for entry in ODD + [0, (), 'told', ('told',), ('told', (0, 0, 1, 1), ()), ('alike',), BOTH[:2],
                            BOTH + ((),), list(BOTH), list(TOLD), ('Told', (0, 0, 1, 1)), BOTH[1:],
                            (('told',), (0, 0, 1, 1)), (None, (0, 0, 1, 1)), (True, *BOTH[1:]),
                            ('told', *BOTH[1:]), ('alike', (0, 0, 1, 1)), ('few', *BOTH[1:])]:
            self.refused('entry', 2, PAIRS, LOST, (BOTH, BOTH, entry))
            self.refused('entry', 0, PAIRS, LOST, (entry, entry, TOLD))

    def test_told(self):
        for numbers in ODD + [0, (), (0, 0, 0, 0), (0, 0, 1), (0, 0, 1, 1, 0), (1, 0, 1, 0), (0, 0, 2, 2),
                              [0, 0, 1, 1], (0, 0, True, 1), (False, 0, 1, 1), ((0, 0, 1, 1),)]:
            self.refused('sum', 2, PAIRS, LOST, (BOTH, BOTH, ('told', numbers)))
            self.refused('sum', 0, PAIRS, LOST, (('told', numbers), None, None))
        self.refused('only', 0, PAIRS, LOST, (TOLD, BOTH, TOLD))
        self.refused('only', 2, PAIRS, LOST, (BOTH, BOTH, ('told', (1, 1, 0, 0))))
        self.refused('only', 2, PAIRS, LOST, (BOTH, BOTH, ('told', (1, 1, 1, 1))))
        self.refused('only', 0, PAIRS, (0,), (TOLD,))
        self.refused('only', 0, PAIRS, (0, 2), (TOLD, TOLD))
        # The sum need not be one of the book's own.
        self.same(lets_loss(PAIRS, (0,), (('told', (1, 1, 1, 1)),)), (0,))

    def test_alike(self):
        for signs in ODD + [0, (), (1, 1, 0), (1, 1, 0, 0, 0), (1, 0, 0, 0), (2, 2, 0, 0), [1, 1, 0, 0],
                            (True, 1, 0, 0), (1, 1, False, 0), ('1', '1', '0', '0')]:
            self.refused('signs', (1, 0), PAIRS, LOST, (BOTH, ('alike', signs, (0, 0, 0, 0)), TOLD))
            self.refused('signs', (1, 0), PAIRS, LOST, (BOTH, ('alike', signs, signs), TOLD))
            self.refused('signs', (1, 1), PAIRS, LOST, (BOTH, ('alike', (0, 0, 0, 0), signs), None))
        self.refused('same', 0, PAIRS, LOST, (('alike', (1, 1, 0, 0), (1, 1, 0, 0)), BOTH, TOLD))
        self.refused('same', 1, PAIRS, LOST, (BOTH, ('alike', (0, 0, 0, 0), (0, 0, 1, 1)), TOLD))
        self.refused('same', 2, PAIRS, LOST, (BOTH, BOTH, BOTH))
        self.refused('kept', 0, PAIRS, LOST, (('alike', (0, 0, 1, 1), (1, 1, 0, 0)), BOTH, TOLD))
        self.refused('kept', 2, PAIRS, LOST, (BOTH, BOTH, ('alike', (0, 0, 1, 1), (0, 0, 0, 0))))
        self.same(lets_loss(PAIRS, LOST, (('alike', (1, 1, 1, 1), (0, 0, 1, 1)), BOTH, TOLD)), (2,))

    def test_two_faults_element_by_element(self):
        self.refused('only', 0, PAIRS, LOST, (TOLD, None, TOLD))
        self.refused('entry', 0, PAIRS, LOST, (None, TOLD, TOLD))
        self.refused('kept', 0, PAIRS, (0, 1), (('alike', (1, 1, 1, 1), (0, 0, 0, 0)), TOLD))
        self.refused('signs', (0, 0), PAIRS, (0, 1), (('alike', (1, 0, 0, 0), (1, 0, 0, 0)), None))
        self.refused('signs', (0, 1), PAIRS, (0, 1), (('alike', (1, 1, 0, 0), (1, 0, 0, 0)), TOLD))
        self.refused('same', 0, PAIRS, (0, 1), (('alike', (1, 1, 0, 0), (1, 1, 1, 1)), TOLD))
        self.refused('sum', 1, PAIRS, (0, 1), (BOTH, ('told', (1, 0, 1, 0))))
        self.refused('shape', -1, PAIRS, (0, 1), (None,))
        self.refused('entry', 1, PAIRS, (0, 1), (BOTH, ('alike', (1, 0, 0, 0))))

    def test_all_lots_of_all_books_of_few_places(self):
        for book in few_places() + small_books(most_words=700):
            for lost in all_lots(book[1]):
                self.same(lets_loss(book, lost, loss_paper(book, lost)), told_back(book, lost))

    def test_ten_places(self):
        chance = Random(40)
        for prime in (2, 3, 13):
            for many in (0, 3, 6):
                book = random_book(chance, prime, 10, many)
                for lost in chance.sample(all_lots(10), 20):
                    self.same(lets_loss(book, lost, loss_paper(book, lost)), told_back(book, lost))

    def test_any_spoiled_paper(self):
        chance = Random(41)
        seen = set()
        for book in small_books(most_words=250, each=4):
            small, lots = Small(book), all_lots(book[1])
            parts = small.words[:6] + small.sums[:6] + [(), (None,), 'told', 'alike', 0, True, None, [1]]
            parts += [('told', numbers) for numbers in small.sums[:9]]
            parts += [('alike', chance.choice(small.words), word) for word in small.words[:9]]
            for _ in range(60):
                lost = chance.choice(lots)
                paper = loss_paper(book, lost)
                for _ in range(chance.randrange(3)):
                    paper = spoiled(chance, paper, parts)
                fault = loss_fault(small, lost, paper)
                if fault is None:
                    self.same(lets_loss(book, lost, paper), small.told_back(lost))
                else:
                    self.refused(*fault, book, lost, paper)
                    seen.add(fault[0])
        self.assertEqual(seen, {'shape', 'entry', 'sum', 'only', 'signs', 'same', 'kept'})

    def test_wrong_values(self):
        for book in NOT_BOOKS:
            self.not_usable('book', lets_loss, book, (), ())
            self.not_usable('book', lets_loss, book, None, None)
        for lost in [thing for thing in ODD if thing != ()] + [
                0, (3,), (1, 0), (0, 0), (0, 3), [0, 1], (0, True), (False, 1), ('0',)]:
            self.not_usable('lost', lets_loss, EVEN, lost, ())
            self.not_usable('lost', lets_loss, EVEN, lost, None)

    def test_by_name_in_any_order(self):
        self.same(lets_loss(thing=(BOTH, BOTH, TOLD), lost=LOST, book=PAIRS), (2,))
        self.same(lets_loss(lost=LOST, thing=(BOTH, BOTH, TOLD), book=PAIRS), (2,))


class ConsequencesTest(unittest.TestCase):
    def accepts(self, book, lost, thing):
        try:
            lets_loss(book, lost, thing)
        except InvalidPaper:
            return False
        return True

    def test_told_alone_or_alike_alone(self):
        for book in few_places()[:200] + small_books(most_words=30, each=2):
            words, sums = words_by_all(book), sums_by_all(book)
            told = [('told', numbers) for numbers in sums]
            alike = [('alike', *pair) for pair in product(words[:1], words)]
            for lost in all_lots(book[1]):
                paper, back = loss_paper(book, lost), told_back(book, lost)
                for at, place in enumerate(lost):
                    for entries, fits in ((told, place in back), (alike, place not in back)):
                        self.assertEqual(fits, any(
                            self.accepts(book, lost, paper[:at] + (entry,) + paper[at + 1:])
                            for entry in entries))

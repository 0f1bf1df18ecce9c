import unittest
from copy import deepcopy
from random import Random

from faults import Small, few_fault, spoiled
from helpers import (
    ALONE, EVEN, FOUR, FREE, NOT_BOOKS, ODD, PAIRS, Raising, by_powers, few_places, places, random_book,
    small_books, sums_by_all, words_by_all)
from mendfew.bookchanges import renumbered
from mendfew.errors import InvalidPaper
from mendfew.fewchecker import lets_few
from mendfew.fewness import fewest_of
from mendfew.fewpapers import few_paper

#: the place 0 is told by 1 alone, 2 is told by nothing, 3 is always 0
MIXED = (3, 4, ((1, 1, 0, 0), (0, 0, 0, 2)))
GOOD = ('few', (1, 1, 1), ((1, 0, 2), (1, 2, 0)))


class FewCheckerTest(Raising, unittest.TestCase):
    def refused(self, word, at, book, place, thing):
        before = deepcopy(thing)
        self.raises('InvalidPaper', {'word': word, 'at': at}, lets_few, book, place, thing)
        self.assertEqual(thing, before)

    def test_examples(self):
        self.same(
            [lets_few(EVEN, 0, ('few', (1, 1, 1), ((1, 0, 2), (1, 2, 0)))), lets_few(FREE, 1, ('none', (0, 1))),
             lets_few(FOUR, 2, few_paper(FOUR, 2))],
            [2, None, 2])
        self.refused('open', (2,), EVEN, 0, ('few', (1, 1, 1), ((1, 0, 2),)))

    def test_shape(self):
        for thing in ODD + [
                0, (), ('few',), ('none',), ('few', (1, 1, 1)), ('none', (0, 1), ()), GOOD + ((),), list(GOOD),
                ('Few', *GOOD[1:]), (('few',), *GOOD[1:]), (None, *GOOD[1:]), ('none', *GOOD[1:]),
                ('few', (1, 0, 2)), ['none', (1, 0, 2)], 'few', GOOD[1:], (True, *GOOD[1:]),
                ('alone',), ('told', (1, 1, 1)), ('pair', (0, 0, 0), (1, 0, 2), ())]:
            if thing != ('few', (1, 1, 1), ()):
                self.refused('shape', -1, EVEN, 0, thing)

    def test_none(self):
        book = (2, 3, ((1, 1, 0),))
        self.same(lets_few(book, 2, ('none', (0, 0, 1))), None)
        for signs in ODD + [0, (), (0, 1), (0, 0, 1, 0), (1, 0, 1), (0, 0, 3), [0, 0, 1], (0, False, 1),
                            (0, 0, True), ('0', '0', '1'), ((0, 0, 1),)]:
            self.refused('signs', -1, book, 2, ('none', signs))
        self.refused('nought', -1, book, 2, ('none', (0, 0, 0)))
        self.refused('nought', -1, book, 2, ('none', (1, 1, 0)))
        self.refused('other', 0, book, 2, ('none', (1, 1, 1)))
        self.refused('other', 1, book, 0, ('none', (1, 1, 0)))
        self.refused('other', 1, book, 0, ('none', (1, 1, 1)))
        self.refused('other', 0, book, 1, ('none', (1, 1, 1)))
        self.refused('other', 9, (13, 10, ()), 4, ('none', (0, 0, 0, 0, 12, 0, 0, 0, 0, 1)))
        self.same(lets_few((13, 10, ()), 4, ('none', (0, 0, 0, 0, 12, 0, 0, 0, 0, 0))), None)
        self.same(lets_few((2, 1, ()), 0, ('none', (1,))), None)

    def test_numbers(self):
        for numbers in ODD + [0, (), (1, 1), (1, 1, 1, 1), (0, 0, 0), (1, 1, 0), (1, 1, 4), [1, 1, 1],
                              (2, 2, True), (2, 1, 0), ((1, 1, 1),)]:
            self.refused('numbers', -1, EVEN, 0, ('few', numbers, ()))
            self.refused('numbers', -1, EVEN, 0, ('few', numbers, None))
        self.refused('numbers', -1, PAIRS, 0, ('few', (0, 0, 1, 1), ()))
        self.refused('numbers', -1, FREE, 0, ('few', (1, 1), ((1, 0),)))
        # The sum need not be one of the book's own, nor have 1 at its first place.
        self.same(lets_few(EVEN, 0, ('few', (2, 2, 2), GOOD[2])), 2)
        self.same(lets_few(FOUR, 0, ('few', (2, 1, 0, 2), few_paper(FOUR, 0)[2])), 2)

    def test_words(self):
        for words in [word for word in ODD if type(word) is not tuple] + [0, list(GOOD[2]), {}, 'x']:
            self.refused('words', -1, EVEN, 0, ('few', (1, 1, 1), words))
        self.refused('signs', 0, EVEN, 0, ('few', (1, 1, 1), (0,)))
        for signs in ODD + [0, (), (1, 0), (1, 0, 2, 0), (1, 0, 1), (1, 0, 5), [1, 0, 2], (True, 0, 2),
                            (1, False, 2), (1, 0, '2')]:
            self.refused('signs', 0, EVEN, 0, ('few', (1, 1, 1), (signs, signs)))
            self.refused('signs', 2, EVEN, 0, ('few', (1, 1, 1), (*GOOD[2], signs)))
        self.refused('nought', 0, EVEN, 0, ('few', (1, 1, 1), ((0, 0, 0), (0, 1, 2))))
        self.refused('nought', 1, EVEN, 0, ('few', (1, 1, 1), ((1, 0, 2), (0, 1, 2))))

    def test_two_faults_element_by_element(self):
        self.refused('nought', 0, EVEN, 0, ('few', (1, 1, 1), ((0, 1, 2), (1, 1, 0))))
        self.refused('signs', 0, EVEN, 0, ('few', (1, 1, 1), ((1, 1, 0), (0, 1, 2))))
        self.refused('signs', 0, EVEN, 0, ('few', (1, 1, 1), ((0, 1, 1), (1, 0, 2))))
        self.refused('nought', 1, EVEN, 0, ('few', (1, 1, 1), ((1, 0, 2), (0, 1, 2), None)))
        self.refused('numbers', -1, EVEN, 0, ('few', (1, 1, 0), ((0, 1, 2), None)))
        self.refused('shape', -1, EVEN, 0, ('fewer', (1, 1, 0), None))
        self.refused('words', -1, EVEN, 0, ('few', (1, 1, 1), [None]))
        self.refused('signs', -1, (2, 3, ((1, 1, 0),)), 2, ('none', (1, 0, 0)))
        self.refused('nought', -1, (2, 3, ((1, 1, 0),)), 2, ('none', (1, 1, 0)))

    def test_open(self):
        self.refused('open', (1,), EVEN, 0, ('few', (1, 1, 1), ()))
        self.refused('open', (1,), EVEN, 0, ('few', (1, 1, 1), ((1, 1, 1),)))
        self.refused('open', (1,), EVEN, 0, ('few', (1, 1, 1), ((1, 2, 0),)))
        self.refused('open', (0,), EVEN, 1, ('few', (1, 1, 1), ((1, 2, 0),) * 3))
        self.refused('open', (0,), EVEN, 2, ('few', (1, 1, 1), ((1, 0, 2),)))
        book = (3, 5, ((1, 1, 1, 1, 1),))
        self.refused('open', (1, 2, 3), book, 0, ('few', (1, 1, 1, 1, 1), ()))
        self.refused('open', (0, 3, 4), book, 2, ('few', (1, 1, 1, 1, 1), (
            (0, 0, 1, 0, 2), (0, 0, 1, 2, 0))))

    def test_one_other(self):
        self.same(lets_few(PAIRS, 3, ('few', (0, 0, 1, 1), ((0, 0, 1, 1),))), 1)
        self.same(lets_few(PAIRS, 3, ('few', (0, 0, 1, 1), ((1, 1, 1, 1),))), 1)
        self.refused('open', (), PAIRS, 3, ('few', (0, 0, 1, 1), ()))
        self.refused('nought', 0, PAIRS, 3, ('few', (0, 0, 1, 1), ((1, 1, 0, 0),)))
        self.refused('open', (), MIXED, 0, ('few', (1, 1, 0, 0), ()))
        # By way of a place that is always 0 the sum has one other more.
        self.refused('open', (1,), MIXED, 0, ('few', (1, 1, 0, 1), ((1, 2, 0, 0),)))

    def test_no_other(self):
        self.same(lets_few(ALONE, 0, ('few', (1,), ())), 0)
        self.same(lets_few(MIXED, 3, ('few', (0, 0, 0, 1), ())), 0)
        self.refused('signs', 0, MIXED, 3, ('few', (0, 0, 0, 1), ((0, 0, 0, 1),)))
        self.refused('nought', 0, MIXED, 3, ('few', (0, 0, 0, 1), ((0, 0, 1, 0),)))
        self.refused('nought', 0, ALONE, 0, ('few', (1,), ((0,),)))
        self.refused('words', -1, ALONE, 0, ('few', (1,), None))

    def test_all_places_of_all_books_of_few_places(self):
        for book in few_places() + small_books(most_words=3000, each=4):
            for place in range(book[1]):
                self.same(lets_few(book, place, few_paper(book, place)), fewest_of(book, place))

    def test_ten_places(self):
        chance = Random(31)
        books = [random_book(chance, prime, 10, many) for prime in (2, 3, 7, 13) for many in (0, 1, 3, 6)]
        books += [by_powers(13, 10, told) for told in (1, 2, 5, 9)] + [by_powers(13, 12, 6)]
        for book in books:
            for place in range(0, book[1], 3):
                self.same(lets_few(book, place, few_paper(book, place)), fewest_of(book, place))

    def test_any_spoiled_paper(self):
        chance = Random(32)
        seen = set()
        for book in small_books(most_words=250, each=4) + [MIXED]:
            small = Small(book)
            parts = small.words[:6] + small.sums[:6] + [(), (None,), 'few', 'none', 0, True, None, [1]]
            for turn in range(60):
                place = chance.randrange(book[1])
                paper = few_paper(book, place)
                if paper[0] == 'few' and turn % 3 == 0:
                    having = [word for word in small.words if word[place]]
                    paper = (*paper[:2], tuple(chance.sample(having, min(len(having), chance.randrange(4)))))
                for _ in range(chance.randrange(3)):
                    paper = spoiled(chance, paper, parts)
                fault = few_fault(small, place, paper)
                if fault is None:
                    self.same(lets_few(book, place, paper), small.fewest(place))
                else:
                    self.refused(*fault, book, place, paper)
                    seen.add(fault[0])
        self.assertEqual(seen, {'shape', 'signs', 'nought', 'other', 'numbers', 'words', 'open'})

    def test_wrong_values(self):
        for book in NOT_BOOKS:
            self.not_usable('book', lets_few, book, 0, GOOD)
            self.not_usable('book', lets_few, book, None, None)
        for place in ODD + [3, 4, (0,), '0']:
            self.not_usable('place', lets_few, EVEN, place, GOOD)
            self.not_usable('place', lets_few, EVEN, place, None)

    def test_by_name_in_any_order(self):
        self.same(lets_few(thing=GOOD, place=0, book=EVEN), 2)
        self.same(lets_few(place=0, thing=GOOD, book=EVEN), 2)
        self.same(lets_few(EVEN, thing=GOOD, place=0), 2)


class ConsequencesTest(unittest.TestCase):
    def accepts(self, book, place, thing):
        try:
            lets_few(book, place, thing)
        except InvalidPaper:
            return False
        return True

    def test_words_bar_sums(self):
        for book in small_books(most_words=250):
            sums = sums_by_all(book)
            for word in words_by_all(book):
                noughts = {place for place in range(book[1]) if word[place] == 0}
                for place in places(word):
                    barred = [row for row in sums if row[place] and set(places(row)) <= noughts | {place}]
                    self.assertEqual(barred, [])

    def test_just_one_of_both_kinds(self):
        for book in few_places() + small_books(most_words=130):
            words, sums = words_by_all(book), sums_by_all(book)
            for place in range(book[1]):
                having = tuple(word for word in words if word[place])
                alone = any(self.accepts(book, place, ('none', word)) for word in words)
                few = any(self.accepts(book, place, ('few', numbers, having)) for numbers in sums)
                self.assertNotEqual(alone, few)

    def test_they_go_over_to_renumbered_books(self):
        chance = Random(33)
        for book in small_books():
            order = list(range(book[1]))
            chance.shuffle(order)
            new = renumbered(book, tuple(order))
            for place in range(book[1]):
                paper = few_paper(book, order[place])
                moved = [tuple(row[at] for at in order) for row in (paper[1], *(paper[2:] or ((),))[0])]
                late = ('none', moved[0]) if paper[0] == 'none' else ('few', moved[0], tuple(moved[1:]))
                self.assertEqual(lets_few(new, place, late), fewest_of(book, order[place]))

    def test_words_twice_and_more_of_them(self):
        for book in small_books(most_words=250):
            words = words_by_all(book)
            for place in range(book[1]):
                paper = few_paper(book, place)
                if paper[0] == 'few':
                    more = tuple(word for word in words if word[place])[:40]
                    late = (*paper[:2], more + paper[2] * 2 + more)
                    self.assertEqual(lets_few(book, place, late), fewest_of(book, place))

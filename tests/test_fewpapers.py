import unittest
from itertools import combinations
from random import Random

from helpers import (
    EVEN, FOUR, FREE, NOT_BOOKS, ODD, PAIRS, Raising, by_powers, places, random_book, small_books)
from mendfew.bookchanges import renumbered, side_by_side
from mendfew.bookchecker import is_word
from mendfew.bookparts import keeps
from mendfew.fewness import fewest_of
from mendfew.fewpapers import few_paper


def fault_of(book, place, thing):
    """The first entry of the list of the checker that applies to a paper, None if none does."""
    size = book[1]
    if not isinstance(thing, tuple) or not (
            len(thing) == 3 and thing[0] == 'few' or len(thing) == 2 and thing[0] == 'none'):
        return ('shape', -1)
    if thing[0] == 'none':
        signs = thing[1]
        if not is_word(book, signs):
            return ('signs', -1)
        if signs[place] == 0:
            return ('nought', -1)
        others = [at for at in places(signs) if at != place]
        return ('other', others[0]) if others else None
    _, numbers, words = thing
    if not (isinstance(numbers, tuple) and len(numbers) == size and any(numbers)
            and keeps(book, numbers) and numbers[place]):
        return ('numbers', -1)
    if not isinstance(words, tuple):
        return ('words', -1)
    for at, word in enumerate(words):
        if not is_word(book, word):
            return ('signs', at)
        if word[place] == 0:
            return ('nought', at)
    few = len(places(numbers)) - 1
    if few > 0:
        others = [at for at in range(size) if at != place]
        for lot in combinations(others, few - 1):
            if not any(all(word[at] == 0 for at in lot) for word in words):
                return ('open', lot)
    return None


class FewPapersTest(Raising, unittest.TestCase):
    def accepted(self, book, place, paper):
        self.assertIsNone(fault_of(book, place, paper))
        few = fewest_of(book, place)
        self.assertEqual(paper[0], 'none' if few is None else 'few')
        if few is not None:
            self.assertEqual(len(places(paper[1])) - 1, few)
            self.assertTrue(all(type(number) is int for number in paper[1]))
        for row in paper[2] if few is not None else paper[1:]:
            self.assertIs(type(row), tuple)
            self.assertTrue(all(type(sign) is int for sign in row))

    def test_the_fault_is_told_as_in_the_examples(self):
        self.assertIsNone(fault_of(EVEN, 0, ('few', (1, 1, 1), ((1, 0, 2), (1, 2, 0)))))
        self.assertIsNone(fault_of(FREE, 1, ('none', (0, 1))))
        self.assertEqual(fault_of(EVEN, 0, ('few', (1, 1, 1), ((1, 0, 2),))), ('open', (2,)))

    def test_small_books(self):
        for book in small_books(most_words=3000, each=4):
            for place in range(book[1]):
                self.accepted(book, place, few_paper(book, place))

    def test_kinds_of_books(self):
        for book, place in (
                (EVEN, 1), (FOUR, 2), (FREE, 1), (PAIRS, 3), ((2, 1, ()), 0), ((3, 1, ((2,),)), 0),
                ((2, 3, ((1, 1, 0),)), 2), ((5, 3, ((0, 3, 0), (1, 0, 1))), 1), ((13, 10, ()), 4)):
            self.accepted(book, place, few_paper(book, place))
        self.same(few_paper(FREE, 0)[0], 'none')
        self.same(few_paper((3, 1, ((2,),)), 0)[2], ())

    def test_ten_places(self):
        chance = Random(12)
        books = [random_book(chance, prime, 10, many) for prime in (2, 3, 7, 13) for many in (1, 3, 6)]
        books += [by_powers(13, 10, told) for told in (1, 2, 5, 6, 9)]
        books.append(side_by_side(by_powers(13, 6, 3), (13, 4, ((1, 1, 0, 0), (0, 0, 0, 1)))))
        for book in books:
            for place in range(0, 10, 3):
                self.accepted(book, place, few_paper(book, place))

    def test_twelve_places(self):
        book = by_powers(13, 12, 6)
        self.accepted(book, 11, few_paper(book, 11))

    def test_papers_go_over_to_renumbered_books(self):
        chance = Random(13)
        for book in small_books():
            order = list(range(book[1]))
            chance.shuffle(order)
            new = renumbered(book, tuple(order))
            for place in range(book[1]):
                paper = few_paper(book, order[place])
                rows = paper[1:2] + (paper[2] if len(paper) == 3 else ())
                moved = [tuple(row[at] for at in order) for row in rows]
                late = ('none', moved[0]) if paper[0] == 'none' else ('few', moved[0], tuple(moved[1:]))
                self.assertIsNone(fault_of(new, place, late))

    def test_words_twice_and_more_of_them(self):
        paper = few_paper(FOUR, 0)
        self.assertIsNone(fault_of(FOUR, 0, (*paper[:2], paper[2] + paper[2][::-1])))

    def test_wrong_values(self):
        for book in NOT_BOOKS:
            self.not_usable('book', few_paper, book, 0)
            self.not_usable('book', few_paper, book, None)
        for place in ODD + [3, 4, (0,), '0']:
            self.not_usable('place', few_paper, EVEN, place)

    def test_by_name_in_any_order(self):
        self.accepted(EVEN, 2, few_paper(place=2, book=EVEN))
        self.accepted(EVEN, 2, few_paper(book=EVEN, place=2))

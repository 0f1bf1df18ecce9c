import unittest
from copy import deepcopy
from random import Random

from helpers import (
    ALONE, EVEN, FOUR, FREE, LATE, NOT_BOOKS, ODD, PAIRS, Raising, all_lots, few_places, places,
    random_book, small_books, sums_by_all)
from mendfew.bookparts import base_sums
from mendfew.goings import goings, is_mended_by, left_by, stuck_lots
from mendfew.losses import told_back
from mendfew.losspapers import loss_paper

RING = (5, 4, ((1, 1, 1, 0), (0, 1, 1, 1)))


def goings_slowly(sums, lost):
    left, told = set(lost), []
    while True:
        lone = [places(numbers) for numbers in sums]
        lone = [left & set(lot) for lot in lone]
        mended = {min(lot) for lot in lone if len(lot) == 1}
        if not mended:
            return tuple(told)
        told.append(tuple(sorted(mended)))
        left -= mended


def some_sums(chance, book):
    """Some sums of a small book, also such as are not its own, and some of them twice."""
    sums = sums_by_all(book)
    return tuple(chance.choice(sums) for _ in range(chance.randrange(5))) if sums else ()


class GoingsTest(Raising, unittest.TestCase):
    def test_examples(self):
        self.same(
            [goings(RING, RING[2], (0, 1)), goings(PAIRS, PAIRS[2], (0, 2)), goings(RING, RING[2], (1, 2)),
             left_by(RING, RING[2], (1, 2, 3))],
            [((1,), (0,)), ((0, 2),), (), (1, 2, 3)])
        self.same(
            [stuck_lots(RING, RING[2]), stuck_lots(PAIRS, ()), left_by(EVEN, ((2, 2, 2),), (1,))],
            [((0, 1, 3), (0, 2, 3), (1, 2)), ((0,), (1,), (2,), (3,)), ()])
        self.not_usable('sums', goings, EVEN, ((1, 1, 0),), (0,))

    def test_slowly(self):
        chance = Random(50)
        for book in small_books(most_words=700, each=4) + [RING]:
            for turn in range(3):
                sums = some_sums(chance, book) if turn else book[2]
                for lost in all_lots(book[1]):
                    told = goings_slowly(sums, lost)
                    self.same(goings(book, sums, lost), told)
                    left = tuple(place for place in lost if not any(place in mended for mended in told))
                    self.same(left_by(book, sums, lost), left)
                    self.same(is_mended_by(book, sums, lost), not left)

    def test_stuck_lots_slowly(self):
        chance = Random(51)
        for book in small_books(most_words=700, each=4) + [RING]:
            for turn in range(3):
                sums = some_sums(chance, book) if turn else book[2]
                stuck = [lot for lot in all_lots(book[1]) if lot and not goings_slowly(sums, lot)]
                least = [lot for lot in stuck if not any(set(other) < set(lot) for other in stuck)]
                self.same(stuck_lots(book, sums), tuple(sorted(least)))

    def test_several_at_once_and_one_by_two_sums(self):
        book = (2, 5, ((1, 1, 0, 0, 0), (0, 0, 1, 1, 0), (1, 0, 0, 0, 1)))
        self.same(goings(book, book[2], (1, 2, 4)), ((1, 2, 4),))
        self.same(goings(book, book[2], (0, 3)), ((0, 3),))
        self.same(goings(book, book[2], (0, 1, 2)), ((0, 2), (1,)))
        self.same(goings(book, book[2], (0, 1, 4)), ())
        self.same(goings(book, book[2] + book[2], (0, 1, 2)), ((0, 2), (1,)))
        self.same(left_by(book, book[2], (0, 1, 2, 4)), (0, 1, 4))
        self.same(is_mended_by(book, book[2], (0, 1, 2, 4)), False)
        self.same(is_mended_by(book, book[2], (0, 1, 2)), True)

    def test_one_after_the_other(self):
        size = 10
        sums = tuple(tuple(int(place in (at, at + 1)) for place in range(size)) for at in range(size - 1))
        book = (3, size, sums)
        lost = tuple(range(1, size))
        self.same(goings(book, sums, lost), tuple((place,) for place in lost))
        self.same(goings(book, sums, lost[:-1]), ((1, 8), (2, 7), (3, 6), (4, 5)))
        self.same(goings(book, sums, tuple(range(size))), ())
        self.same(stuck_lots(book, sums), (tuple(range(size)),))

    def test_no_sums_and_no_lost_places(self):
        for book in (EVEN, PAIRS, FREE, FOUR, ALONE, RING):
            self.same(goings(book, book[2], ()), ())
            self.same(left_by(book, book[2], ()), ())
            self.same(is_mended_by(book, book[2], ()), True)
            for lost in all_lots(book[1]):
                self.same(goings(book, (), lost), ())
                self.same(left_by(book, (), lost), lost)
                self.same(is_mended_by(book, (), lost), lost == ())
            self.same(stuck_lots(book, ()), tuple((place,) for place in range(book[1])))

    def test_places_that_are_always_nought(self):
        self.same(goings(ALONE, ((1,),), (0,)), ((0,),))
        self.same(stuck_lots(ALONE, ((1,), (2,))), ())
        book = (3, 2, ((1, 1), (1, 2)))
        self.same(stuck_lots(book, book[2]), ((0, 1),))
        self.same(stuck_lots(book, ((1, 0), (0, 2))), ())
        self.same(goings(book, ((1, 0), (1, 1)), (0, 1)), ((0,), (1,)))

    def test_sums_that_are_not_its_own(self):
        self.same(goings(RING, ((1, 0, 0, 4),), (0, 1, 2)), ((0,),))
        self.same(left_by(RING, ((1, 0, 0, 4),), (0, 1, 2)), (1, 2))
        self.same(stuck_lots(RING, ((1, 0, 0, 4),)), ((0, 3), (1,), (2,)))

    def test_ten_places_and_more(self):
        chance = Random(52)
        for prime in (2, 7, 13):
            for size in (10, 12):
                book = random_book(chance, prime, size, 6)
                sums = book[2] + base_sums(book)
                for lot in stuck_lots(book, sums):
                    self.assertEqual(goings_slowly(sums, lot), ())
                for lost in chance.sample(all_lots(size), 40):
                    self.same(goings(book, sums, lost), goings_slowly(sums, lost))

    def test_wrong_values(self):
        calls = ((goings, ((0,),)), (left_by, ((0,),)), (is_mended_by, ((0,),)), (stuck_lots, ()))
        for call, more in calls:
            for book in NOT_BOOKS:
                self.not_usable('book', call, book, EVEN[2], *more)
                self.not_usable('book', call, book, None, *more)
            for sums in [thing for thing in ODD if thing != ()] + [
                    0, (1, 1, 1), [(1, 1, 1)], ([1, 1, 1],), ((1, 1),), ((1, 1, 1, 1),), ((0, 0, 0),),
                    ((1, 1, 0),), ((1, 1, 1), (1, 2, 0)), ((1, 1, 1), None), ((1, 1, True),), ((4, 1, 1),),
                    ((-2, 1, 1),), (((1, 1, 1),),), ('111',)]:
                before = deepcopy(sums)
                self.not_usable('sums', call, EVEN, sums, *more)
                self.assertEqual(sums, before)
        for call in (goings, left_by, is_mended_by):
            self.not_usable('sums', call, EVEN, None, None)
            for lost in [thing for thing in ODD if thing != ()] + [
                    0, (3,), (1, 0), (0, 0), (0, 3), [0, 1], (0, True), (False, 1), ('0',)]:
                self.not_usable('lost', call, EVEN, EVEN[2], lost)
        self.not_usable('sums', goings, LATE, PAIRS[2], (0,))

    def test_by_name_in_any_order(self):
        self.same(goings(lost=(0, 1), sums=RING[2], book=RING), ((1,), (0,)))
        self.same(left_by(sums=RING[2], lost=(1, 2), book=RING), (1, 2))
        self.same(is_mended_by(lost=(0, 1), book=RING, sums=RING[2]), True)
        self.same(stuck_lots(sums=(), book=FREE), ((0,), (1,)))


class ConsequencesTest(unittest.TestCase):
    def books(self):
        return few_places()[::5] + small_books(most_words=250) + [RING]

    def test_what_is_left(self):
        chance = Random(53)
        for book in self.books():
            sums = some_sums(chance, book)
            stuck = stuck_lots(book, sums)
            for lost in all_lots(book[1]):
                left = left_by(book, sums, lost)
                self.assertTrue(left == () or any(set(lot) <= set(left) for lot in stuck))

    def test_what_is_mended_is_told_back(self):
        chance = Random(54)
        for book in self.books():
            sums = some_sums(chance, book)
            for lost in all_lots(book[1]):
                mended = [place for going in goings(book, sums, lost) for place in going]
                self.assertLessEqual(set(mended), set(told_back(book, lost)))
                self.assertEqual(sorted(mended + list(left_by(book, sums, lost))), list(lost))
        self.assertEqual(told_back(RING, (0, 1, 2)), (0,))
        self.assertEqual(goings(RING, RING[2], (0, 1, 2)), ())

    def test_sums_of_a_paper(self):
        for book in self.books():
            for lost in all_lots(book[1]):
                back = told_back(book, lost)
                sums = tuple(entry[1] for entry in loss_paper(book, lost) if entry[0] == 'told')
                self.assertEqual(goings(book, sums, lost), (back,) if back else ())

    def test_more_sums_and_fewer_places(self):
        chance = Random(55)
        for book in self.books():
            sums = some_sums(chance, book)
            more = sums + some_sums(chance, book)
            for lost in all_lots(book[1]):
                left = left_by(book, sums, lost)
                self.assertLessEqual(set(left_by(book, more, lost)), set(left))
                fewer = tuple(place for place in lost if chance.randrange(2))
                self.assertLessEqual(set(left_by(book, sums, fewer)), set(left))

    def test_one_by_one_in_any_order(self):
        chance = Random(56)
        for book in self.books():
            sums = some_sums(chance, book)
            for lost in all_lots(book[1]):
                left = set(lost)
                while True:
                    lone = [left & set(places(numbers)) for numbers in sums]
                    lone = [lot for lot in lone if len(lot) == 1]
                    if not lone:
                        break
                    left -= chance.choice(lone)
                self.assertEqual(left_by(book, sums, lost), tuple(sorted(left)))
                self.assertEqual(left_by(book, sums[::-1], lost), tuple(sorted(left)))

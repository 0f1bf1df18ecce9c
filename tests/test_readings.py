import unittest
from copy import deepcopy
from random import Random

from helpers import (
    ALONE, BIG, EVEN, FOUR, FREE, NOT_BOOKS, ODD, PAIRS, Raising, all_lots, by_powers, cut, few_places,
    random_book, small_books, words_by_all)
from mendfew.fewness import fewest_of
from mendfew.losses import told_back
from mendfew.readings import cost_for_all, least_cost, reads_for, reads_for_all

RING = (5, 4, ((1, 1, 1, 0), (0, 1, 1, 1)))


def tells(words, lot, place):
    """Whether words that are the same on the lot are the same at the place, going through them."""
    seen = {}
    return all(seen.setdefault(cut(word, lot), word[place]) == word[place] for word in words)


def cost_of(lot, costs):
    return len(lot) if costs is None else sum(costs[place] for place in lot)


def some_costs(chance, size):
    """Costs of many kinds."""
    return chance.choice((
        None, (0,) * size, (1,) * size, (7,) * size,
        tuple(chance.randrange(10) for _ in range(size)),
        tuple(chance.choice((0, 1)) for _ in range(size)),
        tuple(chance.choice((0, 1, 10 ** 20, 10 ** 20 + chance.randrange(3))) for _ in range(size))))


class ReadingsTest(Raising, unittest.TestCase):
    def test_examples(self):
        self.same(
            [reads_for(RING, 0, (0,)), reads_for(RING, 0, (0,), (1, 1, 1, 9)),
             least_cost(RING, 0, (0,), (1, 1, 1, 9)), least_cost(RING, 0, (), (8, 1, 2, 9)),
             reads_for(EVEN, 0, (0, 1))],
            [(3,), (1, 2), 2, 3, None])
        self.same(
            [reads_for_all(RING, (0, 1)), cost_for_all(RING, (0, 1)),
             cost_for_all(RING, (0, 1), (0, 0, 3, 10 ** 20)), reads_for_all(EVEN, (0, 1))],
            [(2, 3), 2, 100000000000000000003, ()])
        self.not_usable('costs', reads_for, RING, 0, (0,), (1, 1, 1))

    def one_place(self, book, words, place, lost, costs):
        lots = [lot for lot in all_lots(book[1]) if not set(lot) & set(lost) and tells(words, lot, place)]
        least = min((cost_of(lot, costs) for lot in lots), default=None)
        self.same(least_cost(book, place, lost, costs), least)
        lot = reads_for(book, place, lost, costs)
        if least is None:
            self.assertIsNone(lot)
        else:
            self.assertIn(lot, lots)
            self.plain(lot)
            self.assertEqual(cost_of(lot, costs), least)

    def plain(self, lot):
        self.assertIs(type(lot), tuple)
        self.assertTrue(all(type(place) is int for place in lot))

    def all_places(self, book, words, lost, costs):
        back = told_back(book, lost)
        lots = [lot for lot in all_lots(book[1]) if not set(lot) & set(lost)
                and all(tells(words, lot, place) for place in back)]
        least = min(cost_of(lot, costs) for lot in lots)
        self.same(cost_for_all(book, lost, costs), least)
        lot = reads_for_all(book, lost, costs)
        self.assertIn(lot, lots)
        self.plain(lot)
        self.assertEqual(cost_of(lot, costs), least)

    def test_against_all_lots(self):
        chance = Random(45)
        for book in few_places()[::3] + small_books(most_words=250, each=3) + [RING]:
            words = words_by_all(book)
            for lost in chance.sample(all_lots(book[1]), 2) + [(), tuple(range(book[1]))]:
                for place in range(book[1]):
                    self.one_place(book, words, place, lost, some_costs(chance, book[1]))
                self.all_places(book, words, lost, some_costs(chance, book[1]))

    def test_places_that_are_always_nought(self):
        for lost in ((), (0,)):
            self.same(reads_for(ALONE, 0, lost), ())
            self.same(least_cost(ALONE, 0, lost, (5,)), 0)
            self.same(reads_for_all(ALONE, lost, (5,)), ())
            self.same(cost_for_all(ALONE, lost), 0)

    def test_places_that_nothing_else_tells(self):
        self.same([reads_for(FREE, 0, ()), reads_for(FREE, 0, (0,)), reads_for(FREE, 0, (1,))],
                  [(0,), None, (0,)])
        self.same([least_cost(FREE, 0, (), (0, 1)), least_cost(FREE, 1, (), (0, 9)),
                   least_cost(FREE, 0, (0, 1), (0, 1))], [0, 9, None])
        self.same([reads_for_all(FREE, (0, 1)), cost_for_all(FREE, (0, 1)), cost_for_all(FREE, (), (1, 1))],
                  [(), 0, 0])
        self.same([reads_for((2, 1, ()), 0, ()), reads_for((2, 1, ()), 0, (0,))], [(0,), None])

    def test_others_that_cost_less(self):
        # A place that is not lost may cost less to tell than to read.
        self.same(reads_for(PAIRS, 0, (), (5, 2, 0, 0)), (1,))
        self.same(least_cost(PAIRS, 0, (), (5, 2, 0, 0)), 2)
        self.same(reads_for(PAIRS, 0, (), (2, 5, 0, 0)), (0,))
        self.same(least_cost(PAIRS, 0, (0,), (0, 5, 0, 0)), 5)
        # More places may cost less than one.
        self.same(reads_for(RING, 0, (0,), (0, 3, 3, 7)), (1, 2))
        self.same(reads_for(RING, 0, (0,), (0, 4, 4, 7)), (3,))
        self.same(least_cost(RING, 0, (0,), (0, 10 ** 40, 10 ** 40, 2 * 10 ** 40 + 1)), 2 * 10 ** 40)

    def test_places_read_for_several(self):
        book = (7, 5, ((1, 0, 1, 1, 0), (0, 1, 1, 0, 1)))
        self.same(least_cost(book, 0, (0, 1)), 2)
        self.same(least_cost(book, 1, (0, 1)), 2)
        self.same(reads_for_all(book, (0, 1)), (2, 3, 4))
        self.same(cost_for_all(book, (0, 1), (0, 0, 10 ** 20, 1, 2)), 10 ** 20 + 3)

    def test_eight_places_and_more(self):
        chance = Random(46)
        for told in (1, 4, 7):
            book = by_powers(13, 8, told)
            costs = tuple(chance.randrange(100) for _ in range(8))
            for place in (0, 7):
                others = sorted(costs[other] for other in range(8) if other != place)
                self.same(least_cost(book, place, (place,), costs), sum(others[:told]))
            if told == 4:
                self.same(cost_for_all(book, (1, 2, 3), costs), sum(sorted(costs[:1] + costs[4:])[:4]))
        book = by_powers(13, 12, 6)
        self.same(reads_for(book, 11, (11,), (1,) * 6 + (0,) * 6), (0, 6, 7, 8, 9, 10))
        self.same(least_cost((13, 8, ()), 3, ()), 1)
        self.same(reads_for((13, 10, ((1,) * 10,)), 0, (0,)), tuple(range(1, 10)))

    def test_defaults(self):
        for lost in ((), (0,), (0, 1)):
            self.same(reads_for_all(FOUR, lost), reads_for_all(FOUR, lost, None))
            self.same(cost_for_all(FOUR, lost), cost_for_all(FOUR, lost, (1, 1, 1, 1)))
            self.same(reads_for(FOUR, 0, lost), reads_for(FOUR, 0, lost, None))
            self.same(least_cost(FOUR, 0, lost), least_cost(FOUR, 0, lost, (1, 1, 1, 1)))

    def test_wrong_values(self):
        for call in (reads_for, least_cost):
            for book in NOT_BOOKS:
                self.not_usable('book', call, book, 0, ())
                self.not_usable('book', call, book, None, None, ())
            for place in ODD + [3, 4, (0,), '0']:
                self.not_usable('place', call, EVEN, place, (0,))
                self.not_usable('place', call, EVEN, place, None, ())
        for call, more in ((reads_for, (0,)), (least_cost, (0,)), (reads_for_all, ()), (cost_for_all, ())):
            for lost in [thing for thing in ODD if thing != ()] + [
                    0, (3,), (1, 0), (0, 0), (0, 3), [0, 1], (0, True), (False, 1), ('0',)]:
                self.not_usable('lost', call, EVEN, *more, lost)
                self.not_usable('lost', call, EVEN, *more, lost, ())
            for costs in [thing for thing in ODD if thing is not None] + [
                    0, 1, (), (1, 1), (1, 1, 1, 1), (1, 1, -1), [1, 1, 1], (1, None, 1), (1, True, 1),
                    (False, 0, 0), (1, 1, '1'), (1, 1, (1,)), (-BIG, 1, 1)]:
                before = deepcopy(costs)
                self.not_usable('costs', call, EVEN, *more, (0,), costs)
                self.assertEqual(costs, before)
        for book in NOT_BOOKS:
            for call in (reads_for_all, cost_for_all):
                self.not_usable('book', call, book, ())
                self.not_usable('book', call, book, None, ())

    def test_by_name_in_any_order(self):
        costs = (1, 1, 1, 9)
        self.same(reads_for(costs=costs, lost=(0,), place=0, book=RING), (1, 2))
        self.same(least_cost(place=0, costs=costs, book=RING, lost=(0,)), 2)
        self.same(reads_for_all(costs=costs, lost=(0,), book=RING), (1, 2))
        self.same(cost_for_all(lost=(0,), costs=costs, book=RING), 2)
        self.same(reads_for(lost=(0,), place=0, book=RING), (3,))
        self.same(cost_for_all(lost=(0,), book=RING), 1)


class ConsequencesTest(unittest.TestCase):
    def books(self):
        chance = Random(47)
        return small_books() + [RING] + [random_book(chance, prime, 8, many) for prime in (2, 3, 13)
                                         for many in (2, 5)]

    def test_one_lost_place_without_costs(self):
        for book in self.books():
            for place in range(book[1]):
                self.assertEqual(least_cost(book, place, (place,)), fewest_of(book, place))

    def test_a_place_that_is_not_lost(self):
        chance = Random(48)
        for book in self.books():
            costs = some_costs(chance, book[1])
            lost = chance.choice(all_lots(book[1]))
            for place in range(book[1]):
                if place not in lost:
                    self.assertLessEqual(least_cost(book, place, lost, costs), cost_of((place,), costs))

    def test_one_and_all(self):
        chance = Random(49)
        for book in self.books():
            for lost in chance.sample(all_lots(book[1]), 2) + [(0,)]:
                costs = some_costs(chance, book[1])
                each = [least_cost(book, place, lost, costs) for place in told_back(book, lost)]
                total = cost_for_all(book, lost, costs)
                self.assertLessEqual(total, sum(each))
                self.assertGreaterEqual(total, max(each, default=0))

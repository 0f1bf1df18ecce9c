import unittest
from itertools import combinations
from random import Random

from mendfew.linewords import number_in
from mendfew.lots import first_meeting, lots_of, orders_of
from mendfew.rows import cleared_at, inverse_of, power_of, rank_on, reduced_rows


class HelpersTest(unittest.TestCase):
    def test_inverses(self):
        for prime in (2, 3, 5, 13, 997, 999983):
            for number in list(range(1, prime))[:1000] + [prime - 1]:
                told = inverse_of(number, prime)
                self.assertTrue(0 < told < prime and told * number % prime == 1)

    def test_powers(self):
        self.assertEqual([power_of(13, many) for many in (0, 1, 2, 12)], [1, 13, 169, 13 ** 12])
        self.assertEqual([power_of(0, many) for many in (0, 1)], [1, 0])

    def test_rows_without_places(self):
        self.assertEqual(reduced_rows(3, [(), ()]), ())

    def test_lots_and_orders(self):
        self.assertEqual(lots_of((1, 3, 4), 2), [(1, 3), (1, 4), (3, 4)])
        self.assertEqual([lots_of((0, 1), 0), lots_of((0, 1), 3), lots_of((), 0)], [[()], [], [()]])
        self.assertEqual(
            orders_of((0, 1, 2)), [(0, 1, 2), (0, 2, 1), (1, 0, 2), (1, 2, 0), (2, 0, 1), (2, 1, 0)])

    def test_first_meeting(self):
        chance = Random(61)
        for _ in range(2000):
            places = tuple(sorted(chance.sample(range(9), chance.randrange(8))))
            many = chance.randrange(6)
            lots = [tuple(chance.sample(range(9), chance.randrange(1, 5))) for _ in range(chance.randrange(6))]
            found = [lot for lot in combinations(places, many) if all(set(lot) & set(other) for other in lots)]
            self.assertEqual(first_meeting(places, many, lots), min(found, default=None))
        self.assertEqual([first_meeting((), 0, []), first_meeting((1,), 0, [(1,)]), first_meeting((1,), 2, [])],
                         [(), None, None])

    def test_ranks(self):
        rows = ((1, 2, 0, 1), (2, 4, 0, 0))
        self.assertEqual([rank_on(5, rows, lot) for lot in ((), (0,), (0, 1), (0, 3), (2,), (0, 1, 2, 3))],
                         [0, 1, 1, 2, 0, 2])

    def test_rows_cleared_at_a_place(self):
        self.assertEqual(cleared_at(5, [(0, 1, 2), (2, 1, 1)], 0), [(0, 1, 2)])
        self.assertEqual(cleared_at(5, [(0, 1, 2), (2, 3, 1)], 1), [(2, 0, 0)])
        self.assertEqual(cleared_at(3, [(0, 2, 1)], 2), [])

    def test_sixty_digits_and_more(self):
        for text in ('0', '7', '10', '9' * 60):
            self.assertEqual(number_in(text), int(text))
        for text in ('', ' ', '00', '07', '-1', '+1', '1.', '1_0', 'x', '1\n', '9' * 61, '1' + '0' * 60, '0' * 60):
            self.assertIsNone(number_in(text))

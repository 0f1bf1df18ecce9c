import unittest

from helpers import BIG, ODD, Raising
from mendfew.apartness import apart_of
from mendfew.bookparts import told_on, told_signs
from mendfew.fewness import few_of
from mendfew.noughtchecker import lets_noughts
from mendfew.powerrows import power_below, prime_divisors, primitive_below
from mendfew.powers import (
    class_numbers, powers_book, powers_groups, powers_places, powers_used, primitive_of)
from mendfew.price import is_best, price_of
from powered import PRIMES, all_powers, is_book_by, is_told_by, same_rest

#: the greatest primes below a million
GREATEST = (999983, 999979, 999961)
NOT_COUNTS = [value for value in ODD if value != BIG] + [0, -2, '1', (1,), [1]]
NOT_PRIMES = ODD + [0, 1, 4, 6, 9, -2, -7, 1000003, 1000000, 999981, '7', (7,), [7]]


def order_of(number, prime):
    """How many unlike powers the number has."""
    power, many = number % prime, 1
    while power != 1:
        power = power * number % prime
        many += 1
    return many


class NumbersTest(Raising, unittest.TestCase):
    def test_examples(self):
        self.same(
            [[primitive_of(prime) for prime in (2, 3, 7, 13, 41)], powers_used(2, 4), powers_places(7, 2, 2),
             powers_groups(2, 2), class_numbers(13, 4, 2)],
            [[1, 2, 3, 2, 6], (0, 1, 3, 4), (1, 2, 4, 3, 6, 5), ((0, 1, 2), (3, 4, 5)),
             (1, 8, 12, 5, 2, 3, 11, 10)])
        self.same(
            [powers_book(3, 1, 1, 1), powers_book(5, 1, 2, 2), price_of(powers_book(7, 2, 2, 3)),
             is_best(powers_book(7, 2, 2, 3))],
            [(3, 2, ((1, 2),)), (5, 4, ((1, 4, 0, 0), (0, 0, 1, 4))), 3, True])

    def test_power_below(self):
        for prime in PRIMES:
            for base in range(prime):
                for many in range(20):
                    self.same(power_below(base, many, prime), base ** many % prime)
        self.same(power_below(7, 10 ** 30, 999983), pow(7, 10 ** 30, 999983))

    def test_prime_divisors(self):
        for number in range(1, 500):
            self.same(
                prime_divisors(number),
                [k for k in range(2, number + 1) if number % k == 0 and all(k % d for d in range(2, k))])
        self.same(prime_divisors(999982), [2, 79, 6329])

    def test_primitive(self):
        for prime in [k for k in range(2, 300) if all(k % d for d in range(2, k))]:
            numbers = set(range(1, prime))
            least = next(g for g in range(1, prime) if {pow(g, e, prime) for e in range(prime)} == numbers)
            self.same(primitive_of(prime), least)
            self.same(primitive_below(prime), least)
        self.same(primitive_of(2), 1)

    def test_primitive_of_the_greatest_primes(self):
        for prime in GREATEST:
            first = primitive_of(prime)
            self.assertIs(type(first), int)
            self.assertEqual(order_of(first, prime), prime - 1)
            for number in range(1, first):
                self.assertLess(order_of(number, prime), prime - 1)

    def test_used(self):
        for few in range(1, 13):
            for told in range(1, 40):
                used = [e for e in range(100) if e % (few + 1) != few][:told]
                self.same(powers_used(few, told), tuple(used))
        self.same(powers_used(1, 3), (0, 2, 4))
        self.same(powers_used(100, 100), tuple(range(100)))
        self.same(powers_used(1, 100), tuple(range(0, 200, 2)))

    def test_numbers(self):
        for prime in PRIMES + (41, 101):
            for wide in range(1, prime):
                if (prime - 1) % wide:
                    continue
                first = primitive_of(prime)
                for many in range(1, (prime - 1) // wide + 1):
                    told = class_numbers(prime, wide, many)
                    turn = first ** ((prime - 1) // wide)
                    self.same(told, tuple(
                        first ** j * turn ** i % prime for j in range(many) for i in range(wide)))
                    self.assertEqual(len(set(told)), wide * many)
                    self.assertEqual(same_rest(told, wide, prime), tuple(
                        tuple(range(j * wide, j * wide + wide)) for j in range(many)))
                    if wide > 1:
                        self.same(powers_places(prime, wide - 1, many), told)
                        self.same(powers_groups(wide - 1, many), same_rest(told, wide, prime))

    def test_numbers_at_the_edges(self):
        self.same(class_numbers(2, 1, 1), (1,))
        self.same(class_numbers(13, 1, 12), tuple(2 ** j % 13 for j in range(12)))
        self.same(class_numbers(13, 12, 1), tuple(2 ** j % 13 for j in range(12)))
        for wide, many in ((1, 100), (2, 50), (10, 10), (100, 1), (50, 2), (4, 25)):
            self.assertEqual(sorted(class_numbers(101, wide, many)), list(range(1, 101)))
            self.assertEqual(len(set(class_numbers(999961, wide if 999960 % wide == 0 else 1, many))),
                             many * (wide if 999960 % wide == 0 else 1))
        first = primitive_of(999983)
        self.same(class_numbers(999983, 2, 50), tuple(
            sign * first ** j % 999983 for j in range(50) for sign in (1, -1)))

    def test_groups(self):
        for few in range(1, 13):
            for many in range(1, 9):
                self.same(powers_groups(few, many), tuple(
                    tuple(range(j * (few + 1), (j + 1) * (few + 1))) for j in range(many)))
        self.same(powers_groups(99, 1), (tuple(range(100)),))
        self.same(powers_groups(1, 50)[49], (98, 99))

    def test_wrong_values(self):
        for prime in NOT_PRIMES:
            self.not_usable('prime', primitive_of, prime)
            self.not_usable('prime', class_numbers, prime, 1, 1)
            self.not_usable('prime', class_numbers, prime, None, None)
            self.not_usable('prime', powers_places, prime, 1, 1)
            self.not_usable('prime', powers_places, prime, 0, [])
        for wide in NOT_COUNTS + [BIG, 5, 7, 8, 9, 10, 11, 13, 24]:
            self.not_usable('wide', class_numbers, 13, wide, 1)
            self.not_usable('wide', class_numbers, 13, wide, 0)
        for few in NOT_COUNTS + [BIG, 4, 6, 7, 8, 9, 10, 12, 13, 23]:
            self.not_usable('few', powers_places, 13, few, 1)
            self.not_usable('few', powers_places, 13, few, True)
        self.not_usable('few', powers_places, 2, 1, 1)
        self.not_usable('few', powers_places, 3, 2, 1)
        for many in NOT_COUNTS + [BIG, 4, 5, 12]:
            self.not_usable('many', class_numbers, 13, 4, many)
            self.not_usable('many', powers_places, 13, 3, many)
        self.not_usable('many', class_numbers, 13, 1, 13)
        self.not_usable('many', class_numbers, 13, 12, 2)
        self.not_usable('many', class_numbers, 2, 1, 2)
        self.not_usable('many', powers_places, 3, 1, 2)
        for value in NOT_COUNTS:
            self.not_usable('few', powers_used, value, 3)
            self.not_usable('few', powers_used, value, value)
            self.not_usable('told', powers_used, 3, value)
            self.not_usable('few', powers_groups, value, 2)
            self.not_usable('few', powers_groups, value, value)
            self.not_usable('many', powers_groups, 2, value)

    def test_by_name_in_any_order(self):
        self.same(primitive_of(prime=41), 6)
        self.same(powers_used(told=4, few=2), (0, 1, 3, 4))
        self.same(powers_places(many=2, few=2, prime=7), (1, 2, 4, 3, 6, 5))
        self.same(powers_groups(many=1, few=2), ((0, 1, 2),))
        self.same(class_numbers(many=1, wide=4, prime=13), (1, 8, 12, 5))
        self.same(powers_book(told=1, many=1, few=1, prime=3), (3, 2, ((1, 2),)))


class BookTest(Raising, unittest.TestCase):
    def test_words_are_the_sums_of_the_powers(self):
        for prime, few, many, told in all_powers():
            book = powers_book(prime, few, many, told)
            numbers, used = powers_places(prime, few, many), powers_used(few, told)
            self.assertTrue(is_book_by(book, prime, numbers, used), book)
            self.assertIs(type(book), tuple)
            self.assertTrue(all(type(number) is int for row in book[2] for number in row))

    def test_edges(self):
        self.same(powers_book(3, 1, 1, 1), (3, 2, ((1, 2),)))
        # Told equal to few * many, one class: any one sign is told by all the others.
        self.same(powers_book(7, 5, 1, 5), (7, 6, ((1, 3, 2, 6, 4, 5),)))
        self.same(powers_book(13, 11, 1, 1)[1], 12)
        self.assertTrue(is_book_by(
            powers_book(999961, 2, 4, 8), 999961, powers_places(999961, 2, 4), powers_used(2, 8)))
        self.assertTrue(is_book_by(
            powers_book(101, 4, 2, 7), 101, powers_places(101, 4, 2), powers_used(4, 7)))

    def test_wrong_values(self):
        for prime in NOT_PRIMES:
            self.not_usable('prime', powers_book, prime, 1, 1, 1)
            self.not_usable('prime', powers_book, prime, None, None, None)
        for few in NOT_COUNTS + [BIG, 4, 6, 7, 8, 9, 10, 12, 13]:
            self.not_usable('few', powers_book, 13, few, 1, 1)
            self.not_usable('few', powers_book, 13, few, 0, 0)
        self.not_usable('few', powers_book, 2, 1, 1, 1)
        for many in NOT_COUNTS + [BIG, 4, 5, 12]:
            self.not_usable('many', powers_book, 13, 3, many, 1)
            self.not_usable('many', powers_book, 13, 3, many, 0)
        for told in NOT_COUNTS + [BIG, 7, 8, 9, 12]:
            self.not_usable('told', powers_book, 13, 3, 2, told)
        self.assertEqual(told_signs(powers_book(13, 3, 2, 6)), 6)


class ConsequencesTest(unittest.TestCase):
    def test_they_lie_as_far_apart_as_the_price_allows(self):
        for at, (prime, few, many, told) in enumerate(all_powers()):
            book = powers_book(prime, few, many, told)
            self.assertEqual(told_signs(book), told)
            if book[1] < 10 or at % 3 == 0:
                apart = book[1] - powers_used(few, told)[-1]
                self.assertEqual([apart_of(book), price_of(book)], [apart, apart])
                self.assertIs(is_best(book), True)

    def test_each_place_is_told_by_the_others_of_its_class(self):
        for prime, few, many, told in all_powers():
            book = powers_book(prime, few, many, told)
            if book[1] < 10:
                self.assertLessEqual(few_of(book), few)
            for lot in powers_groups(few, many):
                self.assertLessEqual(told_on(book, lot), few)
                for place in lot:
                    self.assertTrue(is_told_by(book, place, tuple(at for at in lot if at != place)))

    def test_whatever_their_numbers(self):
        for prime, few, many, told in ((31, 2, 4, 5), (31, 4, 2, 7), (41, 3, 2, 5), (999961, 2, 3, 4)):
            book = powers_book(prime, few, many, told)
            apart = book[1] - powers_used(few, told)[-1]
            self.assertEqual([apart_of(book), price_of(book), is_best(book)], [apart, apart, True])
            self.assertEqual(lets_noughts(
                book, ('noughts', powers_places(prime, few, many), powers_used(few, told))), apart)

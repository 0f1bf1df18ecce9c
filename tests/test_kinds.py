import unittest

from helpers import BIG, ODD, nested
from mendfew.kinds import is_integer, is_number, is_prime

NO_INTEGERS = [None, True, False, '', '1', 'a', (), (1,), [], [1], ((1,),), nested(30, 1, tuple)]


class KindsTest(unittest.TestCase):
    def test_integers(self):
        for thing in (0, 1, -1, 7, BIG, -BIG):
            self.assertIs(is_integer(thing), True)
        for thing in NO_INTEGERS:
            self.assertIs(is_integer(thing), False)

    def test_numbers(self):
        for thing in (0, 1, 7, BIG):
            self.assertIs(is_number(thing), True)
        for thing in NO_INTEGERS + [-1, -BIG]:
            self.assertIs(is_number(thing), False)

    def test_primes_against_divisors(self):
        for thing in range(-5, 400):
            told = thing > 1 and all(thing % divisor for divisor in range(2, thing))
            self.assertIs(is_prime(thing), told)

    def test_primes_at_the_end(self):
        self.assertIs(is_prime(2), True)
        self.assertIs(is_prime(999983), True)
        for thing in (999999, 1000000, 997 * 997, 1000003, 10 ** 60 - 1, BIG, -2, -BIG):
            self.assertIs(is_prime(thing), False)

    def test_primes_of_other_kinds(self):
        for thing in NO_INTEGERS:
            self.assertIs(is_prime(thing), False)

    def test_any_value_by_name(self):
        for thing in ODD:
            for judge in (is_integer, is_number, is_prime):
                self.assertIs(type(judge(thing=thing)), bool)

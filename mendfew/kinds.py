"""Kinds of plain values: integers, numbers, primes."""

PRIMES_END = 1000000


def is_integer(thing):
    """Whether any value is an int that is not a bool."""
    return isinstance(thing, int) and not isinstance(thing, bool)


def is_number(thing):
    """Whether any value is an integer that is at least 0."""
    return is_integer(thing) and thing >= 0


def is_prime(thing):
    """Whether any value is a prime number below a million."""
    if not is_integer(thing) or not 2 <= thing < PRIMES_END:
        return False
    divisor = 2
    while divisor * divisor <= thing:
        if thing % divisor == 0:
            return False
        divisor = divisor + 1
    return True

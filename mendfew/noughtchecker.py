"""The checker of papers of noughts: powers that make all words of a book."""

from mendfew.kinds import is_integer, is_number
from mendfew.paperforms import is_form, need
from mendfew.powerrows import power_rows
from mendfew.rows import bound_rows, cleared, reduced_rows
from mendfew.usable import want_book


def lets_noughts(book, thing):
    """By how many places unlike words differ at least, by a paper of it; raises InvalidPaper else.

    A sum of powers is 0 at no more places than its greatest exponent tells.
    """
    want_book(book, "book")
    prime, size, sums = book
    need(is_form(thing, "noughts", 3), "shape", -1)
    _, numbers, used = thing
    need(isinstance(numbers, tuple) and isinstance(used, tuple) and len(used) > 0, "shape", -1)
    need(len(numbers) == size, "many", -1)
    for at, number in enumerate(numbers):
        need(is_integer(number) and 0 < number < prime and number not in numbers[:at], "number", at)
    for at, exponent in enumerate(used):
        need(is_number(exponent) and exponent < size, "used", at)
        need(at == 0 or exponent > used[at - 1], "used", at)
    powers = reduced_rows(prime, power_rows(prime, numbers, used))
    for at, word in enumerate(bound_rows(prime, size, sums)):
        need(not any(cleared(prime, word, powers)), "word", at)
    return size - used[-1]

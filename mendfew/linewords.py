"""Words of lines: what they write, and which of them cannot stand."""

from mendfew.bookforms import is_size
from mendfew.errors import InvalidText
from mendfew.kinds import is_prime

MOST_DIGITS = 60


def number_in(word):
    """The number that the word writes, None if it writes none."""
    if not (word.isascii() and word.isdigit()) or len(word) > MOST_DIGITS:
        return None
    if word[0] == "0" and len(word) > 1:
        return None
    return int(word)


def first_word_read(words, first, line):
    """Raises InvalidText unless the first word of the line is this one."""
    if words[0] != first:
        raise InvalidText(line, 0)


def numbers_read(words, start, many, below, line):
    """The tuple of so many numbers below another one that the words from start on write."""
    numbers = []
    for field in range(start, len(words)):
        number = number_in(words[field])
        if len(numbers) == many or number is None or number >= below:
            raise InvalidText(line, field)
        numbers.append(number)
    if len(numbers) < many:
        raise InvalidText(line, len(words))
    return tuple(numbers)


def head_read(text, line):
    """The pair of prime and size that the first line of a book writes."""
    words = text.split(" ")
    first_word_read(words, "book", line)
    if len(words) == 1 or not is_prime(number_in(words[1])):
        raise InvalidText(line, 1)
    if len(words) == 2 or not is_size(number_in(words[2])):
        raise InvalidText(line, 2)
    if len(words) > 3:
        raise InvalidText(line, 3)
    return (number_in(words[1]), number_in(words[2]))


def sum_read(prime, size, text, line):
    """The sum that a line of a book with this prime and size writes."""
    words = text.split(" ")
    first_word_read(words, "sum", line)
    numbers = numbers_read(words, 1, size, prime, line)
    if not any(numbers):
        raise InvalidText(line, 0)
    return numbers

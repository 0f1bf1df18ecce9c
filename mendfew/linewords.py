"""Words of lines: what they write, and which of them cannot stand."""

from mendfew.bookforms import is_size
from mendfew.errors import InvalidText
from mendfew.kinds import is_prime

MOST_DIGITS = 60


def is_number_word(word):
    """Whether the word writes a number, however great."""
    if not (word.isascii() and word.isdigit()):
        return False
    return word == "0" or word[0] != "0"


def number_in(word):
    """The number that the word writes, None if it writes none, or has too many digits."""
    if not is_number_word(word) or len(word) > MOST_DIGITS:
        return None
    return int(word)


def first_word_read(words, first, line):
    """Raises InvalidText unless the first word of the line is this one."""
    if words[0] != first:
        raise InvalidText(line, 0)


def no_more_read(words, many, line):
    """Raises InvalidText if the line has more than so many words."""
    if len(words) > many:
        raise InvalidText(line, many)


def some_numbers_read(words, start, least, most, below, line):
    """The tuple of the numbers below another one, so many at least and most, that the words write."""
    numbers = []
    for field in range(start, len(words)):
        number = number_in(words[field])
        if len(numbers) == most or number is None or number >= below:
            raise InvalidText(line, field)
        numbers.append(number)
    if len(numbers) < least:
        raise InvalidText(line, len(words))
    return tuple(numbers)


def numbers_read(words, start, many, below, line):
    """The tuple of just so many of them."""
    return some_numbers_read(words, start, many, many, below, line)


def head_read(text, line):
    """The pair of prime and size that the first line of a book writes."""
    words = text.split(" ")
    first_word_read(words, "book", line)
    if len(words) == 1 or not is_prime(number_in(words[1])):
        raise InvalidText(line, 1)
    if len(words) == 2 or not is_size(number_in(words[2])):
        raise InvalidText(line, 2)
    no_more_read(words, 3, line)
    return (number_in(words[1]), number_in(words[2]))


def sum_read(prime, size, text, line):
    """The sum that a line of a book with this prime and size writes."""
    words = text.split(" ")
    first_word_read(words, "sum", line)
    numbers = numbers_read(words, 1, size, prime, line)
    if not any(numbers):
        raise InvalidText(line, 0)
    return numbers

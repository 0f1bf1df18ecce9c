"""Numbers of places by powers of a primitive one, powers of numbers, and books whose words they make."""

from mendfew.rows import bound_rows


def power_below(base, many, prime):
    """The base times itself, so many times, modulo prime."""
    power, square, left = 1, base % prime, many
    while left > 0:
        if left % 2 == 1:
            power = power * square % prime
        square = square * square % prime
        left = left // 2
    return power


def prime_divisors(number):
    """The primes that divide the number, ascending."""
    found, left, divisor = [], number, 2
    while divisor * divisor <= left:
        if left % divisor == 0:
            found.append(divisor)
            while left % divisor == 0:
                left = left // divisor
        divisor = divisor + 1
    if left > 1:
        found.append(left)
    return found


def primitive_below(prime):
    """The least number from 1 on of which all numbers from 1 to prime - 1 are powers."""
    # A number of which not all are powers comes to 1 already with some prime divisor less.
    shorter = [(prime - 1) // divisor for divisor in prime_divisors(prime - 1)]
    number = 1
    while any([power_below(number, many, prime) == 1 for many in shorter]):
        number = number + 1
    return number


def numbers_by(prime, wide, many):
    """The numbers of so many classes by wide, which divides prime - 1, one class behind the other."""
    first = primitive_below(prime)
    turn = power_below(first, (prime - 1) // wide, prime)
    inner = [power_below(turn, at, prime) for at in range(wide)]
    starts = [power_below(first, at, prime) for at in range(many)]
    return tuple([start * number % prime for start in starts for number in inner])


def power_row(prime, numbers, used):
    """The powers of the numbers with this exponent."""
    return tuple([power_below(number, used, prime) for number in numbers])


def power_rows(prime, numbers, used):
    """The powers of the numbers with each of these exponents, in order."""
    return [power_row(prime, numbers, one) for one in used]


def book_by(prime, numbers, used):
    """The book, with its base sums, whose words are all sums of these powers, each times a number."""
    size = len(numbers)
    return (prime, size, bound_rows(prime, size, power_rows(prime, numbers, used)))

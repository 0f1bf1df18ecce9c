"""Rows of numbers modulo a prime: tuples that are added, scaled, reduced and bound.

Objects of the package reach these functions by their operators and properties,
so each function builds new rows and changes none.
"""


def power_of(base, many):
    """The base times itself, so many times."""
    power = 1
    for _ in range(many):
        power = power * base
    return power


def inverse_of(number, prime):
    """The number below prime that, times this one, is 1 modulo prime."""
    # Both rests stay worth * number and late * number modulo prime (Euclid).
    rest, worth = number, 1
    other, late = prime, 0
    while rest != 1:
        times = other // rest
        rest, other = other - times * rest, rest
        worth, late = late - times * worth, worth
    return worth % prime


def total_of(prime, numbers, signs):
    """The sum of the signs, each times its number, modulo prime."""
    return sum([number * sign for number, sign in zip(numbers, signs)]) % prime


def scaled(prime, times, row):
    """The row, taken so many times."""
    return tuple([times * number % prime for number in row])


def plus_scaled(prime, row, times, other):
    """The row and, so many times, the other one."""
    return tuple([(number + times * more) % prime for number, more in zip(row, other)])


def places_of(row):
    """The places at which the row is not 0."""
    return tuple([place for place, number in enumerate(row) if number != 0])


def first_place(row):
    """The first place at which the row is not 0; its length if there is none."""
    for place, number in enumerate(row):
        if number != 0:
            return place
    return len(row)


def unit_row(size, place):
    """The row that has 1 at the place, and else 0."""
    return tuple([1 if other == place else 0 for other in range(size)])


def cut_to(row, lot):
    """What the row has at the places of the lot."""
    return tuple([row[place] for place in lot])


def without_item(row, place):
    """The row without what it has at the place."""
    return row[:place] + row[place + 1:]


def spread(row, lot, size):
    """The row of this size that has the row at the places of the lot, and else 0."""
    numbers = dict(zip(lot, row))
    return tuple([numbers.get(place, 0) for place in range(size)])


def cleared(prime, row, done):
    """The row, less so many times each of the done ones that it has 0 at their first places.

    Each of the done ones has 1 at its first place, at which the others have 0.
    """
    rest = row
    for other in done:
        number = rest[first_place(other)]
        if number != 0:
            rest = plus_scaled(prime, rest, -number, other)
    return rest


def joined(prime, done, rest):
    """The done rows and one more that is cleared by them and not all 0, cleared by each other."""
    place = first_place(rest)
    row = scaled(prime, inverse_of(rest[place], prime), rest)
    return [*[plus_scaled(prime, other, -other[place], row) for other in done], row]


def reduced_rows(prime, rows):
    """The one tuple of rows with the same sums of multiples that is reduced.

    The first place of each is later than that of the one before; there it has 1, the others 0.
    """
    done = []
    for row in rows:
        rest = cleared(prime, row, done)
        if any(rest):
            done = joined(prime, done, rest)
    # A row with an earlier first place is the greater one, as Python sorts.
    return tuple(sorted(done, reverse=True))


def rank_on(prime, rows, lot):
    """How many rows there are when what the rows have at the places of the lot is reduced."""
    return len(reduced_rows(prime, [cut_to(row, lot) for row in rows]))


def cleared_at(prime, rows, place):
    """The sums of multiples of the rows that have 0 at the place, told by one row less.

    The rows are not bound to each other, and one of them is not 0 at the place.
    """
    first = [row for row in rows if row[place] != 0][0]
    times = inverse_of(first[place], prime)
    rest = [plus_scaled(prime, row, -times * row[place], first) for row in rows]
    return [row for row in rest if any(row)]


def bound_rows(prime, size, rows):
    """The reduced rows, of this size, of all with which each of the rows comes to 0."""
    # Reduced from behind, each row tells its last place by earlier ones that are free,
    # so the row of a free place has 1 there and else numbers at later, told places only.
    behind = [row[::-1] for row in reduced_rows(prime, [row[::-1] for row in rows])]
    ties = {places_of(row)[-1]: row for row in behind}
    return tuple([bound_row(prime, size, ties, free) for free in range(size) if free not in ties])


def bound_row(prime, size, ties, free):
    """The row with 1 at the free place, 0 at the other free ones, and what the ties tell."""
    return tuple([
        -ties[place][free] % prime if place in ties else (1 if place == free else 0)
        for place in range(size)
    ])


def bound_within(prime, size, rows, lot):
    """The reduced rows of all those that have 0 outside of the lot, likewise."""
    inner = bound_rows(prime, len(lot), [cut_to(row, lot) for row in rows])
    return tuple([spread(row, lot, size) for row in inner])

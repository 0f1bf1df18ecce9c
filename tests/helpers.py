"""Books, values and slow ways of counting that the tests share."""

from itertools import combinations, product
from random import Random

EVEN = (3, 3, ((1, 1, 1),))
PAIRS = (2, 4, ((1, 1, 0, 0), (0, 0, 1, 1)))
FREE = (2, 2, ())
FOUR = (3, 4, ((1, 1, 1, 0), (0, 1, 2, 1)))
LATE = (2, 4, ((1, 0, 1, 0), (0, 1, 0, 1)))
ALONE = (3, 1, ((2,),))
BIG = 10 ** 60 - 1


def nested(depth, value, make):
    """The value within so many tuples or lists."""
    for _ in range(depth):
        value = make([value])
    return value


#: values of all kinds, of which none is a book, a tuple of places, or of signs
ODD = [
    None, True, False, -1, BIG, -BIG, '', 'a', 'sum', '0 1', 'x\ny', [], [0], [1, 1, 1], ['a'],
    (None,), (True,), (False, True), ('0',), (-1,), (BIG,), ((),), ([],), ((0,),), (0, None),
    (1, '1', 1), (True, 1, 1), (1, 1, True), [2, 2, ()], nested(30, 0, tuple), nested(30, 0, list),
    ('few', (1, 1, 1), ()), 'p' * 4000, tuple([None] * 5000),
]

NOT_BOOKS = ODD + [
    0, 1, 2, (), (2,), (2, 2), (2, 2, (), ()), [2, 2, ()], (2, 2, []), (2, 2, None), (2, 2, 'sum'),
    (True, 2, ()), (2, True, ()), ('2', 2, ()), (4, 2, ()), (1, 2, ()), (0, 2, ()), (-2, 2, ()),
    (1000003, 2, ()), (1000000, 2, ()), (BIG, 2, ()), (2, 0, ()), (2, -1, ()), (2, 101, ()),
    (2, '2', ()), (2, None, ()), (None, 2, ()), (2, 2, ((1,),)), (2, 2, ((1, 1, 1),)),
    (2, 2, ((0, 0),)), (2, 2, ((1, 2),)), (2, 2, ((1, -1),)), (2, 2, ([1, 1],)),
    (2, 2, ((1, True),)), (2, 2, ((1, None),)), (2, 2, (None,)), (2, 2, (1, 1)),
    (2, 2, ((1, 1), (0, 0))), (2, 1, ((1,), (2,))),
]


def total(prime, numbers, signs):
    return sum(number * sign for number, sign in zip(numbers, signs)) % prime


def words_by_all(book):
    """All words, of all tuples of signs, ascending."""
    prime, size, sums = book
    return [
        signs for signs in product(range(prime), repeat=size)
        if all(total(prime, numbers, signs) == 0 for numbers in sums)
    ]


def sums_by_all(book):
    """All sums of the book, of all tuples of numbers, ascending."""
    prime, size, _ = book
    words = words_by_all(book)
    return [
        numbers for numbers in product(range(prime), repeat=size)
        if any(numbers) and all(total(prime, numbers, word) == 0 for word in words)
    ]


def spanned(prime, size, rows):
    """All sums of the rows, each taken some number of times, ascending."""
    found = set()
    for counts in product(range(prime), repeat=len(rows)):
        found.add(tuple(
            sum(count * row[place] for count, row in zip(counts, rows)) % prime
            for place in range(size)
        ))
    return sorted(found)


def told_by_count(prime, many):
    """How many signs tell so many unlike words."""
    told = 0
    while prime ** told < many:
        told += 1
    assert prime ** told == many
    return told


def places(row):
    return tuple(place for place, number in enumerate(row) if number)


def cut(row, lot):
    return tuple(row[place] for place in lot)


def random_book(chance, prime, size, many):
    """A book with at most so many sums, some of them sums of others, or multiples."""
    sums = []
    for _ in range(many):
        kind = chance.randrange(4)
        if kind == 0 and sums:
            times = chance.randrange(1, prime)
            row = tuple(times * number % prime for number in chance.choice(sums))
        elif kind == 1:
            row = tuple(chance.choice((0, chance.randrange(prime))) for _ in range(size))
        else:
            row = tuple(chance.randrange(prime) for _ in range(size))
        if any(row):
            sums.append(row)
    return (prime, size, tuple(sums))


def by_powers(prime, size, told):
    """The book whose words are the sums of the powers 0 to told - 1 of the numbers below size.

    Each place is told by any told others, and by no fewer.
    """
    from mendfew.bookparts import base_words
    rows = tuple(tuple(number ** power % prime for number in range(size)) for power in range(told))
    return (prime, size, base_words((prime, size, rows)))


def power_rows(prime, numbers, used):
    """The powers of the numbers with each of these exponents."""
    return [tuple(number ** exponent % prime for number in numbers) for exponent in used]


def all_books(prime, size):
    """Books of this prime and size with all words that there can be, each with few sums."""
    ones = [row for row in product(range(prime), repeat=size) if any(row) and row[places(row)[0]] == 1]
    return [(prime, size, sums) for many in range(size + 1) for sums in combinations(ones, many)]


def few_places():
    """All books of a few places."""
    kinds = ((2, 1), (2, 2), (2, 3), (3, 1), (3, 2), (5, 2), (13, 1))
    return [book for prime, size in kinds for book in all_books(prime, size)]


def all_lots(size):
    """All lots of the places below size."""
    return [lot for many in range(size + 1) for lot in combinations(range(size), many)]


def small_books(most_words=700, each=3, seed=5):
    """Books of which all tuples of signs can be gone through; the same ones each time."""
    chance = Random(seed)
    books = [EVEN, PAIRS, FREE, FOUR, LATE, ALONE, (2, 1, ()), (2, 1, ((1,),)), (2, 2, ((1, 0),))]
    for prime in (2, 3, 5, 7, 13):
        for size in range(1, 7):
            if prime ** size <= most_words:
                for _ in range(each):
                    books.append(random_book(chance, prime, size, chance.randrange(size + 2)))
    return books


def fields_of(error):
    """The class name of an error, and its fields."""
    return (error.__class__.__name__, dict(vars(error)))


class Raising:
    """Asked within a test case: which error with which fields a call raises."""

    def raises(self, name, fields, call, *args, **more):
        from mendfew.errors import MendError
        with self.assertRaises(MendError) as caught:
            call(*args, **more)
        self.assertEqual(fields_of(caught.exception), (name, fields))
        for key, value in vars(caught.exception).items():
            self.assertIs(type(value), type(fields[key]))

    def not_usable(self, name, call, *args, **more):
        self.raises('NotUsable', {'word': name, 'at': -1}, call, *args, **more)

    def same(self, one, other):
        """Equal, and of exactly the same kinds throughout."""
        self.assertEqual(one, other)
        self.assertIs(type(one), type(other))
        if isinstance(one, (tuple, list)):
            for left, right in zip(one, other):
                self.same(left, right)

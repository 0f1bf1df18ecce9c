"""What is wrong with a paper, found the slow way: by all words, all sums and all lots of a small book.

Each function tells the first entry of the list of a checker that applies, None if none does.
"""

from itertools import combinations

from helpers import cut, places, spanned, sums_by_all, told_by_count, words_by_all


class Small:
    """A small book with all its words and sums."""

    def __init__(self, book):
        self.book = book
        self.prime, self.size, _ = book
        self.words = words_by_all(book)
        self.sums = sums_by_all(book)
        self.told = told_by_count(self.prime, len(self.words))

    def is_word(self, thing):
        return all_integers(thing) and thing in self.words

    def is_sum(self, thing):
        return all_integers(thing) and thing in self.sums

    def is_lot(self, thing):
        return (all_integers(thing) and all(0 <= place < self.size for place in thing)
                and list(thing) == sorted(set(thing)))

    def told_on(self, lot):
        return told_by_count(self.prime, len({cut(word, lot) for word in self.words}))

    def fewest(self, place):
        return min((len(places(numbers)) - 1 for numbers in self.sums if numbers[place]), default=None)

    def apart(self):
        return min((len(places(word)) for word in self.words if any(word)), default=None)

    def price_lot(self):
        """On how many places words may be alike by the price, None without one."""
        fewest = [self.fewest(place) for place in range(self.size)]
        if self.told == 0 or None in fewest:
            return None
        return self.told - 2 + -(-self.told // max(1, *fewest))

    def told_back(self, lost):
        return tuple(place for place in lost if any(
            numbers[place] and not any(numbers[other] for other in lost if other != place)
            for numbers in self.sums))


def all_integers(thing):
    return type(thing) is tuple and all(type(part) is int for part in thing)


def is_form(thing, first, many):
    return type(thing) is tuple and len(thing) == many and type(thing[0]) is str and thing[0] == first


def few_fault(small, place, thing):
    if is_form(thing, 'none', 2):
        signs = thing[1]
        if not small.is_word(signs):
            return ('signs', -1)
        if signs[place] == 0:
            return ('nought', -1)
        others = [at for at in places(signs) if at != place]
        return ('other', others[0]) if others else None
    if not is_form(thing, 'few', 3):
        return ('shape', -1)
    _, numbers, words = thing
    if not small.is_sum(numbers) or numbers[place] == 0:
        return ('numbers', -1)
    if type(words) is not tuple:
        return ('words', -1)
    for at, word in enumerate(words):
        if not small.is_word(word):
            return ('signs', at)
        if word[place] == 0:
            return ('nought', at)
    few = len(places(numbers)) - 1
    if few > 0:
        for lot in combinations([at for at in range(small.size) if at != place], few - 1):
            if not any(all(word[at] == 0 for at in lot) for word in words):
                return ('open', lot)
    return None


def apart_fault(small, thing):
    if is_form(thing, 'alone', 1):
        return ('more', -1) if len(small.words) > 1 else None
    if not is_form(thing, 'pair', 4):
        return ('shape', -1)
    _, signs, late, lots = thing
    if not small.is_word(signs):
        return ('first', -1)
    if not small.is_word(late):
        return ('second', -1)
    if signs == late:
        return ('equal', -1)
    if type(lots) is not tuple:
        return ('lots', -1)
    for at, lot in enumerate(lots):
        if not small.is_lot(lot):
            return ('lot', at)
        if small.told_on(lot) < small.told:
            return ('tells', at)
    apart = sum(one != other for one, other in zip(signs, late))
    for lot in combinations(range(small.size), apart - 1):
        if all(set(lot) & set(other) for other in lots):
            return ('open', lot)
    return None


def loss_fault(small, lost, thing):
    if type(thing) is not tuple or len(thing) != len(lost):
        return ('shape', -1)
    for at, entry in enumerate(thing):
        if is_form(entry, 'told', 2):
            if not small.is_sum(entry[1]):
                return ('sum', at)
            if [place for place in lost if entry[1][place]] != [lost[at]]:
                return ('only', at)
        elif is_form(entry, 'alike', 3):
            for late in (0, 1):
                if not small.is_word(entry[late + 1]):
                    return ('signs', (at, late))
            _, one, other = entry
            if one[lost[at]] == other[lost[at]]:
                return ('same', at)
            if any(one[place] != other[place] for place in range(small.size) if place not in lost):
                return ('kept', at)
        else:
            return ('entry', at)
    return None


def lot_fault(small, thing):
    if not is_form(thing, 'price', 3) or type(thing[1]) is not tuple or type(thing[2]) is not tuple:
        return ('shape', -1)
    _, lot, signs = thing
    if not small.is_lot(lot):
        return ('lot', -1)
    if len(lot) < small.price_lot():
        return ('few', -1)
    if not small.is_word(signs) or not any(signs):
        return ('signs', -1)
    there = [place for place in lot if signs[place]]
    return ('there', there[0]) if there else None


def nought_fault(small, base, thing):
    """Base are the base words of the book."""
    if not is_form(thing, 'noughts', 3) or type(thing[1]) is not tuple or type(thing[2]) is not tuple:
        return ('shape', -1)
    _, numbers, used = thing
    if not used:
        return ('shape', -1)
    if len(numbers) != small.size:
        return ('many', -1)
    for at, number in enumerate(numbers):
        if type(number) is not int or not 1 <= number < small.prime or number in numbers[:at]:
            return ('number', at)
    for at, exponent in enumerate(used):
        if type(exponent) is not int or not 0 <= exponent < small.size or (at and exponent <= used[at - 1]):
            return ('used', at)
    rows = [tuple(number ** exponent % small.prime for number in numbers) for exponent in used]
    made = set(spanned(small.prime, small.size, rows))
    for at, word in enumerate(base):
        if word not in made:
            return ('word', at)
    return None


def spoiled(chance, thing, parts):
    """The value with something in it, at any depth, put in the place of something else."""
    if isinstance(thing, (tuple, list)) and thing and chance.randrange(4):
        at = chance.randrange(len(thing))
        new = list(thing)
        new[at] = spoiled(chance, thing[at], parts)
        return tuple(new)
    kind = chance.randrange(9)
    if kind == 0 or kind == 1:
        return chance.choice(parts)
    if isinstance(thing, tuple):
        if kind == 2:
            return list(thing)
        if kind == 3:
            return thing[:-1]
        if kind == 4:
            return thing + thing[:1]
        if kind == 5:
            return thing[::-1]
        if kind == 6:
            return thing + (chance.choice(parts),)
        return thing[1:]
    if isinstance(thing, int):
        return [True, False, thing + 1, thing - 1, -thing, str(thing), None][kind - 2]
    return [None, True, thing, [thing], (thing,), 'few', 'told'][kind - 2]

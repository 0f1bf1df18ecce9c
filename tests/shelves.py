"""Live shelves led the slow way: by all words of a small book, and with nothing shared between moments."""

from copy import deepcopy
from functools import lru_cache

from helpers import BIG, ODD, total, words_by_all

FIRST = ('lose', 'mend', 'going', 'write', 'widen', 'mark')


@lru_cache(maxsize=None)
def words_of(book):
    return words_by_all(book)


@lru_cache(maxsize=None)
def back_by_all(book, lost):
    """The lost places at which no words differ that are alike elsewhere."""
    found = {}
    for word in words_of(book):
        kept = tuple(sign for place, sign in enumerate(word) if place not in lost)
        found.setdefault(kept, []).append(word)
    return tuple(place for place in lost if all(
        len({word[place] for word in words}) == 1 for words in found.values()))


def is_row(prime, thing):
    return (type(thing) is tuple and 1 <= len(thing) <= 100
            and all(type(part) is int and 0 <= part < prime for part in thing))


def event_form(prime, thing):
    """Whether any value is an event by form."""
    if type(thing) is not tuple or not thing or type(thing[0]) is not str:
        return False
    if thing == ('going',):
        return True
    if len(thing) != 2:
        return False
    first, more = thing
    if first in ('lose', 'mend'):
        return type(more) is int and more >= 0
    if first in ('write', 'widen'):
        return is_row(prime, more)
    return (first == 'mark' and type(more) is str and 1 <= len(more) <= 8
            and all('a' <= letter <= 'z' for letter in more))


class Model:
    """What a live shelf of a small book must tell."""

    def __init__(self, book, signs, careful=False, most=40):
        self.begun = ('live', book, signs)
        self.careful, self.most = careful, most
        self.book, self.word, self.lost, self.events = book, list(signs), set(), []
        self.before = []

    def back(self):
        return back_by_all(self.book, tuple(sorted(self.lost)))

    def signs(self, kept=()):
        return tuple(
            sign if place not in self.lost or place in kept else None for place, sign in enumerate(self.word))

    def marks(self):
        return tuple(sorted(event[1] for event in self.events if event[0] == 'mark'))

    def going(self):
        """What one going by the sums of the book mends."""
        found = set()
        for numbers in self.book[2]:
            lost = [place for place in self.lost if numbers[place]]
            if len(lost) == 1:
                found.add(lost[0])
        return found

    def reason(self, event):
        prime, size, sums = self.book
        if not event_form(prime, event):
            return 'shape'
        if len(self.events) >= self.most:
            return 'full'
        first, more = event[0], event[-1]
        if first in ('lose', 'mend') and more >= size:
            return 'place'
        if first == 'lose' and more in self.lost:
            return 'gone'
        if first == 'mend' and more not in self.lost:
            return 'there'
        if first == 'mend' and more not in self.back():
            return 'untold'
        if first == 'going' and not self.going():
            return 'none'
        if first == 'write' and (len(more) != size or any(total(prime, row, more) for row in sums)):
            return 'word'
        if first == 'widen' and len(more) != size:
            return 'many'
        if first == 'widen' and size >= 12:
            return 'wide'
        if first == 'widen' and self.lost:
            return 'lost'
        if first == 'mark' and more in self.marks():
            return 'twice'
        if first == 'lose' and self.careful:
            lost = tuple(sorted({*self.lost, more}))
            if back_by_all(self.book, lost) != lost:
                return 'risk'
        return None

    def apply(self, event):
        self.before.append(deepcopy((self.book, self.word, self.lost)))
        first, more = event[0], event[-1]
        if first == 'lose':
            self.lost.add(more)
        elif first == 'mend':
            self.lost.remove(more)
        elif first == 'going':
            self.lost -= self.going()
        elif first == 'write':
            self.word, self.lost = list(more), set()
        elif first == 'widen':
            prime, size, sums = self.book
            self.word.append(total(prime, more, self.word))
            self.book = (prime, size + 1, tuple(row + (0,) for row in sums) + (more + (prime - 1,),))
        self.events.append(event)

    def undo(self):
        self.book, self.word, self.lost = self.before.pop()
        return self.events.pop()

    def since(self, name):
        at = self.events.index(('mark', name))
        return tuple(self.events[at + 1:])

    def story(self):
        return (self.begun, *self.events)

    def told(self):
        return (self.book, self.signs(), self.back())

    def table(self):
        lines = []
        for place, sign in enumerate(self.signs()):
            state = 'there' if place not in self.lost else ('back' if place in self.back() else 'lost')
            lines.append(f"{place} {'-' if sign is None else sign} {state}")
        return lines


def some_event(chance, model):
    """An event by form for the model; often one that is possible."""
    prime, size, _ = model.book
    first = chance.choice(('lose', 'lose', 'lose', 'mend', 'mend', 'going', 'write', 'widen', 'mark'))
    if first in ('lose', 'mend'):
        return (first, chance.randrange(size + (1 if chance.randrange(9) == 0 else 0)))
    if first == 'going':
        return (first,)
    if first == 'mark':
        return (first, chance.choice(('a', 'b', 'c', 'abcdefgh', 'm', 'zz')))
    if first == 'write' and chance.randrange(3):
        return (first, chance.choice(words_of(model.book)))
    many = size + (chance.choice((-1, 1)) if size > 1 and chance.randrange(5) == 0 else 0)
    return (first, tuple(chance.randrange(prime) for _ in range(many)))


def spoiled_event(chance, event):
    """The event with something in it that is not as it should be; or perhaps it still is."""
    parts = ODD + [0, 1, 2, BIG, 'm', 'abcdefghi', 'A', 'a1', 'lose', (0, 0), [0]]
    kind = chance.randrange(6)
    if kind == 0:
        return list(event)
    if kind == 1:
        return (*event, chance.choice(parts))
    if kind == 2:
        return event[:-1]
    if kind == 3:
        return (chance.choice(parts + list(FIRST)), *event[1:])
    if kind == 4 and len(event) > 1 and type(event[1]) is tuple:
        at = chance.randrange(len(event[1]))
        return (event[0], (*event[1][:at], chance.choice(parts), *event[1][at + 1:]))
    return (event[0], chance.choice(parts))


def led(chance, live, model, many, small=True):
    """Leads both through so many events that are possible."""
    done = 0
    while done < many:
        event = some_event(chance, model)
        if small and event[0] == 'widen' and model.book[0] ** model.book[1] > 40:
            continue
        if model.reason(event) is None:
            live.happen(event)
            model.apply(event)
        done += 1

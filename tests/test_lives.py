import unittest
from copy import deepcopy
from random import Random

from faults import Small
from helpers import (
    ALONE, BIG, EVEN, FOUR, FREE, NOT_BOOKS, ODD, PAIRS, Raising, all_lots, by_powers, small_books)
from mendfew.bookclasses import Book
from mendfew.bookparts import keeps
from mendfew.errors import InvalidEvent
from mendfew.livelogs import replayed
from mendfew.lives import Careful, Live
from mendfew.losses import told_back
from mendfew.powers import powers_book
from shelves import Model, event_form, led, some_event, spoiled_event, words_of

ONE = (1, 1, 0, 0)


class Derived(Live):
    """A class of a caller, below Live."""


class Short(Live):
    """A class of a caller, with fewer events."""

    MOST = 3


def everything(live):
    """All that a live shelf tells, but for counts."""
    size = live.book_now[1]
    return [
        live.book_now, live.signs_now, live.lost_now, live.back_now, live.marks_now, live.told(), live.mended(),
        live.table(), live.story(), len(live), list(live), [live[place] for place in range(size)],
        [live(place) for place in range(size)], [place in live for place in range(size + 1)],
        [live.since(name) for name in live.marks_now]]


class Shelf(Raising):
    def refused(self, reason, event, call, *args, **more):
        before = deepcopy(event)
        self.raises('InvalidEvent', {'event': event, 'reason': reason}, call, *args, **more)
        self.assertEqual(event, before)

    def like(self, live, model):
        """All that the live shelf tells is what the model tells."""
        book, signs, back = model.told()
        size = book[1]
        self.same([live.book_now, live.signs_now, live.back_now], [book, signs, back])
        self.same(live.lost_now, tuple(sorted(model.lost)))
        self.same(live.marks_now, model.marks())
        self.same(live.told(), model.told())
        self.same(live.mended(), model.signs(back))
        self.same(live.table(), model.table())
        self.same(live.story(), model.story())
        self.same([len(live), list(live)], [len(model.events), model.events])
        self.same([live[place] for place in range(size)], list(signs))
        for place in range(size + 2):
            self.assertIs(place in live, place < size and place not in model.lost)
        for name in model.marks():
            self.same(live.since(name), model.since(name))
        for place in range(size):
            self.tells(live, place, place not in model.lost or place in back)

    def tells(self, live, place, certain):
        """What live(place) must be; a sum for a place that is told back."""
        numbers = live(place)
        if place in live.lost_now:
            self.assertIs(numbers is not None, certain)
        if numbers is not None:
            self.assertIs(type(numbers), tuple)
            self.assertTrue(keeps(live.book_now, numbers))
            self.assertNotEqual(numbers[place], 0)
            self.assertEqual([at for at in live.lost_now if numbers[at] and at != place], [])


class LiveTest(Shelf, unittest.TestCase):
    def test_examples(self):
        live = Live(PAIRS, (1, 1, 0, 0))
        self.same(
            [live.lose(0), live.signs_now, live.mended(), live.lose(1), live.lose(2), live.lost_now,
             live.back_now, live.table()[1:3]],
            [(1, 1), (None, 1, 0, 0), (1, 1, 0, 0), (2, 0), (3, 1), (0, 1, 2), (2,),
             ['1 - lost', '2 - back']])
        self.same(
            [live.barred(one) for one in (
                ('mend', 0), ('mend', 3), ('mend', 4), ('lose', 1), ('write', (1, 0, 0, 0)), ('widen', (1, 0)),
                ('widen', (1, 0, 0, 0)), ('lose', -1))],
            ['untold', 'there', 'place', 'gone', 'word', 'many', 'lost', 'shape'])
        self.same(
            [live.going(), live[2], live.barred(('going',)), live.write((0, 0, 1, 1)), live.widen((1, 0, 1, 0)),
             live.signs_now, live.book_now[2][2], 4 in live],
            [(2, 0), 0, 'none', (0, 0), (0, 0), (0, 0, 1, 1, 1), (1, 0, 1, 0, 1), True])
        self.same(
            [live.tried(('lose', 0), ('lose', 1))[2], live.undo(), len(live),
             Careful(EVEN, (1, 1, 1)).do_all(('lose', 0), ('mend', 0), ('lose', 2))],
            [(0, 1), ('widen', (1, 0, 1, 0)), 5, 3])
        self.same([live(0)[:2], Live(FREE, (0, 1))(0)], [(1, 1), None])
        self.refused('there', ('mend', 0), Live(PAIRS, (1, 1, 0, 0)).mend, 0)

    def test_at_first(self):
        for book in small_books(most_words=250):
            for signs in words_of(book)[-2:]:
                for kind in (Live, Careful, Derived):
                    self.like(kind(book, signs), Model(book, signs))
                    self.same(kind(signs=signs, book=book).counts(), (0, 0))

    def test_any_events(self):
        chance = Random(72)
        for careful, kind in ((False, Live), (True, Careful), (False, Derived)):
            seen = set()
            for book in small_books(most_words=130, each=2):
                signs = chance.choice(words_of(book))
                live, model = kind(book, signs), Model(book, signs, careful)
                for _ in range(25):
                    event = some_event(chance, model)
                    if event[0] == 'widen' and book[0] ** model.book[1] > 130:
                        continue
                    reason = model.reason(event)
                    seen.add(reason)
                    self.same(live.barred(event), reason)
                    if reason is None:
                        model.apply(event)
                        self.same(live.happen(event), (len(model.lost), len(model.back())))
                    else:
                        self.refused(reason, event, live.happen, event)
                    self.like(live, model)
                    if model.events and chance.randrange(4) == 0:
                        self.same(live.undo(), model.undo())
                        self.like(live, model)
            self.assertEqual(
                seen - {'risk', 'untold'},
                {None, 'place', 'gone', 'there', 'none', 'word', 'many', 'lost', 'twice'})
            self.assertEqual('risk' in seen, careful)
            self.assertEqual('untold' in seen, not careful)

    def test_any_spoiled_event(self):
        chance = Random(73)
        for kind in (Live, Careful):
            for book in (EVEN, PAIRS, FREE, FOUR):
                live, model = kind(book, (0,) * book[1]), Model(book, (0,) * book[1], kind is Careful)
                led(chance, live, model, 9)
                before = everything(live)
                for _ in range(400):
                    event = spoiled_event(chance, some_event(chance, model))
                    reason = model.reason(event)
                    self.same(live.barred(event), reason)
                    if reason is not None:
                        self.refused(reason, event, live.happen, event)
                self.same(everything(live), before)

    def test_by_its_methods(self):
        live = Live(PAIRS, ONE)
        self.same(
            [live.lose(0), live.lose(1), live.lose(2), live.mend(2), live.write((0, 0, 0, 0)), live.lose(3),
             live.going(), live.widen((1, 0, 0, 1)), live.mark('m')],
            [(1, 1), (2, 0), (3, 1), (2, 0), (0, 0), (1, 1), (0, 0), (0, 0), (0, 0)])
        self.same(live.story(), (
            ('live', PAIRS, ONE), ('lose', 0), ('lose', 1), ('lose', 2), ('mend', 2), ('write', (0, 0, 0, 0)),
            ('lose', 3), ('going',), ('widen', (1, 0, 0, 1)), ('mark', 'm')))
        other = Live(PAIRS, ONE)
        for event in live:
            other.happen(event)
        self.same(everything(other), everything(live))

    def test_methods_by_name(self):
        live = Live(signs=ONE, book=PAIRS)
        self.same(
            [live.happen(event=('lose', 0)), live.lose(place=2), live.mend(place=2), live.write(signs=(0, 0, 1, 1)),
             live.widen(numbers=(1, 0, 1, 0)), live.mark(name='m'), live.barred(event=('mark', 'm')),
             live.tried(event=('lose', 0)), live.do_all(event=('lose', 1)), live.do_all(keep=True, event=('lose', 4)),
             live.since(mark='m'), live(place=1)[:2]],
            [(1, 1), (2, 2), (1, 1), (0, 0), (0, 0), (0, 0), 'twice',
             (live.book_now, (None, 0, 1, 1, 1), (0,)), 1, 1, (('lose', 1), ('lose', 4)), (1, 1)])

    def test_any_values_in_its_methods(self):
        for kind in (Live, Careful):
            live = kind(PAIRS, ONE)
            live.mark('a')
            for value in ODD + [4, -2, '0', (0,), (2, 2), [0, 0, 0, 0], (0, 0, 0, True), 'A', 'abcdefghi', BIG]:
                for first, call in (
                        ('lose', live.lose), ('mend', live.mend), ('write', live.write), ('widen', live.widen),
                        ('mark', live.mark), (None, live.happen)):
                    event = (first, value) if first else value
                    form = event_form(2, event)
                    reason = {'lose': 'place', 'mend': 'place', 'write': 'word', 'widen': 'many', 'mark': 'twice'}
                    if form and first == 'mark' and value != 'a':
                        continue
                    self.refused(reason[first] if form else 'shape', event, call, value)
            self.same(len(live), 1)

    def test_errors_of_making(self):
        for kind in (Live, Careful, Derived):
            for book in NOT_BOOKS + [Book.of(EVEN)]:
                self.not_usable('book', kind, book, (0, 0))
                self.not_usable('book', kind, book, None)
            for signs in ODD + [
                    0, (), (0, 0), (0, 0, 0, 0), (1, 0, 0), (1, 1, 4), [1, 1, 1], (True, 1, 1), (1, 1, True),
                    (0, False, 0), ('1', '1', '1'), (None, None, None), (1, 1, None)]:
                self.not_usable('signs', kind, EVEN, signs)

    def test_two_share_nothing(self):
        first, second = Live(PAIRS, ONE), Live(PAIRS, ONE)
        first.lose(0), first.mark('m')
        self.same(everything(second), everything(Live(PAIRS, ONE)))
        self.same(second.counts(), (0, 0))
        second.write((0, 0, 0, 0))
        self.same(first.signs_now, (None, 1, 0, 0))

    def test_what_it_told_is_its_callers(self):
        live = Live(PAIRS, ONE)
        live.lose(2), live.mark('m'), live.lose(0)
        before = everything(live)
        live.table().clear()
        table = live.table()
        table[0] = 'x'
        table.append('y')
        list(live).clear()
        self.same(everything(live), before)
        self.assertIsNot(live.table(), live.table())
        for told in (live.story(), live.told(), live.since('m'), live.signs_now, live.lost_now, live.marks_now):
            self.assertIs(type(told), tuple)

    def test_properties_are_read_only(self):
        for kind in (Live, Careful):
            live = kind(PAIRS, ONE)
            for name in ('book_now', 'signs_now', 'lost_now', 'back_now', 'marks_now'):
                with self.assertRaises(AttributeError):
                    setattr(live, name, ())
            with self.assertRaises(TypeError):
                live[0] = 1

    def test_defined_in_the_class_itself(self):
        for name in (
                '__init__', 'book_now', 'signs_now', 'lost_now', 'back_now', 'marks_now', 'happen', 'lose', 'mend',
                'going', 'write', 'widen', 'mark', 'barred', 'told', 'mended', 'tried', 'trial', 'undo', 'do_all',
                'counts', 'since', 'table', 'story', '__getitem__', '__call__', '__contains__', '__len__',
                '__iter__', '__eq__', '__iadd__', 'MOST'):
            self.assertIn(name, vars(Live))
        self.assertIn('__init__', vars(Careful))
        self.assertEqual(Careful.__bases__, (Live,))


class ReasonsTest(Shelf, unittest.TestCase):
    def barred(self, live, reasons):
        """Each event is refused for its reason, by barred and by happen, and nothing changes."""
        before, (started, _) = everything(live), live.counts()
        for at, (event, reason) in enumerate(reasons):
            self.same(live.barred(event), reason)
            if reason is None:
                self.assertEqual(live.tried(event)[0][0], live.book_now[0])
            else:
                self.refused(reason, event, live.tried, event)
        self.same(everything(live), before)
        self.same(live.counts(), (started, started))
        for event, reason in reasons:
            if reason is not None:
                self.refused(reason, event, live.happen, event)
        self.same(everything(live), before)

    def test_place_gone_there_untold(self):
        live = Live(EVEN, (1, 1, 1))
        self.barred(live, [
            (('lose', 3), 'place'), (('mend', 3), 'place'), (('mend', BIG), 'place'), (('mend', 0), 'there'),
            (('going',), 'none'), (('lose', 0), None)])
        live.lose(1)
        self.barred(live, [
            (('lose', 1), 'gone'), (('mend', 1), None), (('mend', 2), 'there'), (('going',), None),
            (('mend', 3), 'place'), (('lose', 3), 'place')])
        live.lose(2)
        # A place that is lost twice; one that is not told back; going that mends nothing.
        self.barred(live, [
            (('lose', 1), 'gone'), (('lose', 2), 'gone'), (('mend', 1), 'untold'), (('mend', 2), 'untold'),
            (('mend', 0), 'there'), (('going',), 'none'), (('lose', 0), None)])

    def test_going_by_the_sums_of_the_book_itself(self):
        # Place 0 is told back by place 3, but not by one of the sums that the book has.
        ring = (5, 4, ((1, 1, 1, 0), (0, 1, 1, 1)))
        live = Live(ring, (2, 1, 2, 2))
        self.same([live.lose(0), live.lose(1), live.lose(2)], [(1, 1), (2, 2), (3, 1)])
        self.barred(live, [(('going',), 'none'), (('mend', 0), None), (('mend', 1), 'untold')])
        self.same([live.mend(0), live.signs_now], [(2, 0), (2, None, None, 2)])
        late = Live(ring, (2, 1, 2, 2))
        late.lose(0), late.lose(1)
        # Only 1 is the only lost one of a sum; then 0.
        self.same([late.going(), late.signs_now, late.going(), late.lost_now], [
            (1, 1), (None, 1, 2, 2), (0, 0), ()])
        self.barred(late, [(('going',), 'none')])
        none = Live((5, 4, ()), (2, 1, 2, 2))
        self.same([none.lose(0), none.barred(('going',))], [(1, 0), 'none'])

    def test_many_at_once(self):
        live = Live(PAIRS, ONE)
        self.same([live.lose(0), live.lose(3), live.going(), live.lost_now, live.signs_now], [
            (1, 1), (2, 2), (0, 0), (), ONE])

    def test_word(self):
        live = Live(EVEN, (1, 1, 1))
        self.barred(live, [
            (('write', signs), 'word') for signs in ((0,), (0, 0), (0, 0, 0, 0), (1, 0, 0), (2, 2, 1), (1,) * 100)
        ] + [(('write', (0, 0, 0)), None), (('write', (1, 1, 1)), None)])
        live.lose(0), live.lose(2)
        self.same([live.write((0, 1, 2)), live.signs_now, live.lost_now], [(0, 0), (0, 1, 2), ()])

    def test_many_wide_lost(self):
        live = Live(EVEN, (1, 1, 1))
        self.barred(live, [
            (('widen', numbers), 'many') for numbers in ((0,), (1, 1), (1, 1, 1, 1), (0,) * 100)
        ] + [(('widen', (0, 0, 0)), None)])
        live.lose(0)
        self.barred(live, [(('widen', (0, 0, 0)), 'lost'), (('widen', (0, 0)), 'many')])
        live.mend(0)
        self.same([live.widen((0, 1, 2)), live.signs_now, live.book_now], [
            (0, 0), (1, 1, 1, 0), (3, 4, ((1, 1, 1, 0), (0, 1, 2, 2)))])
        self.same([live.lose(3), live.lose(1), live.barred(('write', (1, 1, 1)))], [(1, 1), (2, 2), 'word'])

    def test_twelve_places(self):
        eleven = by_powers(13, 11, 5)
        live = Live(eleven, (0,) * 11)
        self.same(live.widen((1,) * 11), (0, 0))
        self.same(live.book_now[1], 12)
        self.barred(live, [(('widen', (1,) * 12), 'wide'), (('widen', (1,) * 11), 'many'), (('lose', 11), None)])
        live.lose(11)
        # Two reasons: the first one of the list is told.
        self.barred(live, [(('widen', (1,) * 12), 'wide'), (('widen', (1,) * 13), 'many'), (('lose', 12), 'place')])
        self.same(live.mend(11), (0, 0))
        large = Live((2, 100, ()), (1,) * 100)
        self.same([large.barred(('widen', (1,) * many)) for many in (100, 99, 101)], ['wide', 'many', 'shape'])
        twelve = Live(powers_book(13, 2, 4, 8), (0,) * 12)
        # Each place is told by the two others of its class alone.
        self.same([twelve.lose(0), twelve.lose(4), twelve.lose(5), twelve.going()], [
            (1, 1), (2, 2), (3, 1), (2, 0)])
        self.same([twelve.lost_now, twelve.barred(('mend', 4)), twelve(3), len(twelve(0))], [
            (4, 5), 'untold', None, 12])

    def test_twice(self):
        live = Live(FREE, (0, 1))
        self.barred(live, [(('mark', 'm'), None), (('mark', 'abcdefgh'), None), (('mark', 'abcdefghi'), 'shape')])
        live.mark('m')
        self.barred(live, [(('mark', 'm'), 'twice'), (('mark', 'n'), None)])
        live.mark('abcdefgh'), live.mark('a')
        self.same(live.marks_now, ('a', 'abcdefgh', 'm'))
        live.undo(), live.undo()
        self.barred(live, [(('mark', 'm'), 'twice'), (('mark', 'a'), None)])
        live.undo()
        self.barred(live, [(('mark', 'm'), None)])

    def test_forty_events(self):
        for kind in (Live, Careful):
            live = kind(EVEN, (1, 1, 1))
            for _ in range(20):
                live.lose(0), live.mend(0)
            self.same([len(live), live.MOST, kind.MOST], [40, 40, 40])
            # Full is told ahead of all others but shape.
            self.barred(live, [
                (('lose', 0), 'full'), (('lose', 3), 'full'), (('mend', 0), 'full'), (('going',), 'full'),
                (('write', (1, 0, 0)), 'full'), (('widen', (1,)), 'full'), (('mark', 'm'), 'full'),
                (('lose', -1), 'shape'), (('mark', 'M'), 'shape'), (None, 'shape')])
            self.same(live.undo(), ('mend', 0))
            self.barred(live, [(('lose', 0), 'gone'), (('mend', 0), None)])
            self.same(live.lose(1) if kind is Live else live.mend(0), (2, 0) if kind is Live else (0, 0))
            self.barred(live, [(('going',), 'full'), (('lose', 2), 'full')])
            self.refused('full', ('lose', 2), live.tried, ('lose', 2))

    def test_the_class_value_of_a_class_below(self):
        live = Short(EVEN, (1, 1, 1))
        live.lose(0), live.mend(0), live.mark('m')
        self.barred(live, [(('lose', 0), 'full'), (('lose', True), 'shape')])

    def test_full_behind_tried_events(self):
        live = Live(EVEN, (1, 1, 1))
        for at in range(38):
            live.write((1, 1, 1))
        self.same(live.tried(('lose', 0), ('lose', 1))[1], (None, None, 1))
        self.refused('full', ('lose', 2), live.tried, ('lose', 0), ('lose', 1), ('lose', 2))
        self.raises('Broken', {'done': 2}, live.do_all, ('lose', 0), ('lose', 1), ('lose', 2))
        self.same(len(live), 38)

    def test_risk(self):
        live = Careful(PAIRS, ONE)
        self.barred(live, [(('lose', 0), None), (('lose', 4), 'place')])
        live.lose(0)
        self.barred(live, [(('lose', 1), 'risk'), (('lose', 0), 'gone'), (('lose', 2), None)])
        live.lose(2)
        self.barred(live, [(('lose', 1), 'risk'), (('lose', 3), 'risk'), (('lose', 4), 'place')])
        self.same([live.going(), live.lose(1), live.lose(3)], [(0, 0), (1, 1), (2, 2)])
        free = Careful(FREE, (0, 1))
        self.barred(free, [(('lose', 0), 'risk'), (('lose', 1), 'risk'), (('going',), 'none')])
        alone = Careful(ALONE, (0,))
        self.same([alone.lose(0), alone.mend(0)], [(1, 1), (0, 0)])
        # With one more lost, one that is told back would not be any more.
        even = Careful(EVEN, (1, 1, 1))
        even.lose(2)
        self.barred(even, [(('lose', 0), 'risk'), (('lose', 1), 'risk')])

    def test_nothing_is_shape_in_a_reason(self):
        for live in (Live(EVEN, (1, 1, 1)), Careful(EVEN, (1, 1, 1))):
            self.barred(live, [(value, 'shape') for value in NOT_BOOKS if not event_form(3, value)])


class ReadingTest(Shelf, unittest.TestCase):
    def test_items_and_members(self):
        for kind in (Live, Careful):
            live = kind(PAIRS, ONE)
            live.lose(1)
            self.same([live[0], live[1], live[2], live[3]], [1, None, 0, 0])
            for thing in ODD + [4, 5, '0', (0,), [0], slice(0, 1), live]:
                self.assertIs(thing in live, False)
                self.not_usable('place', lambda: live[thing])
                self.not_usable('place', live, thing)
            self.assertIs(1 in live, False)
            self.assertIs(0 in live, True)

    def test_sums(self):
        live = Live(PAIRS, ONE)
        self.assertIn(live(0), ((1, 1, 0, 0), (1, 1, 1, 1)))
        live.lose(0)
        self.assertIn(live(0), ((1, 1, 0, 0), (1, 1, 1, 1)))
        # Not lost, but each sum that has it has a lost place more.
        self.same(live(1), None)
        live.lose(1), live.lose(2)
        self.same([live(0), live(1), live(2), live(3)], [None, None, (0, 0, 1, 1), None])
        self.same([Live(FREE, (0, 1))(place) for place in (0, 1)], [None, None])
        self.same(Live(ALONE, (0,))(0) in ((1,), (2,)), True)

    def test_any_lost_lot(self):
        for book in small_books(most_words=130, each=2):
            sums = Small(book).sums
            for lost in all_lots(book[1]):
                live = Live(book, words_of(book)[-1])
                for place in lost:
                    live.lose(place)
                self.same(live.back_now, told_back(book, lost))
                for place in range(book[1]):
                    self.tells(live, place, place in live.back_now)
                    found = [
                        numbers for numbers in sums
                        if numbers[place] and not any(numbers[at] for at in lost if at != place)]
                    self.assertIs(live(place) is None, not found)

    def test_since(self):
        live = Live(PAIRS, ONE)
        live.mark('a'), live.lose(0), live.mark('b'), live.mend(0)
        self.same(live.since('a'), (('lose', 0), ('mark', 'b'), ('mend', 0)))
        self.same(live.since('b'), (('mend', 0),))
        live.mark('c')
        self.same(live.since('c'), ())
        for mark in ODD + [0, 'd', 'A', '', 'ab', ('a',), ['a'], ('mark', 'a'), live]:
            if mark != 'a':
                self.not_usable('mark', live.since, mark)
        live.undo()
        self.not_usable('mark', live.since, 'c')

    def test_equal(self):
        def made():
            return [kind(PAIRS, ONE) for kind in (Live, Careful, Derived, Short)]
        for one in made():
            for other in made():
                self.assertIs(one == other, True)
                self.assertIs(one != other, False)
                other.lose(0)
                self.assertIs(one == other, False)
                self.assertIs(one != other, True)
                other.undo()
                self.assertIs(one == other, True)
        one, other = Live(PAIRS, ONE), Live(PAIRS, ONE)
        one.lose(0), one.mend(0)
        # Alike in all but the story.
        self.assertIs(one == other, False)
        for thing in ODD + [one.story(), PAIRS, Book.of(PAIRS), Live(EVEN, (1, 1, 1)), Live(PAIRS, (0, 0, 0, 0)),
                            Live((2, 4, PAIRS[2][::-1]), ONE)]:
            self.assertIs(other == thing, False)
            self.assertIs(other != thing, True)

    def test_in_place(self):
        for kind in (Live, Careful, Derived):
            live = first = kind(PAIRS, ONE)
            live += ('lose', 0)
            self.assertIs(live, first)
            live += ('going',)
            self.same(list(live), [('lose', 0), ('going',)])
            for event, reason in ((('mend', 0), 'there'), (['lose', 0], 'shape'), (('lose', 4), 'place')):
                with self.assertRaises(InvalidEvent) as caught:
                    live += event
                self.same([caught.exception.event, caught.exception.reason], [event, reason])
            self.assertIs(live, first)
            self.same([list(live), live.counts()], [[('lose', 0), ('going',)], (5, 5)])

    def test_iterated_over(self):
        live = Live(PAIRS, ONE)
        self.same([list(live), len(live)], [[], 0])
        live.lose(0), live.mark('m')
        self.same([event for event in live], [('lose', 0), ('mark', 'm')])
        self.same(tuple(live), live.story()[1:])

    def test_table(self):
        live = Live((13, 3, ((1, 1, 0),)), (12, 1, 11))
        self.same(live.table(), ['0 12 there', '1 1 there', '2 11 there'])
        live.lose(0), live.lose(2)
        self.same(live.table(), ['0 - back', '1 1 there', '2 - lost'])


class ConsequencesTest(Shelf, unittest.TestCase):
    def test_of_67(self):
        chance = Random(74)
        for kind in (Live, Careful):
            for book in small_books(most_words=130, each=2):
                live = kind(book, chance.choice(words_of(book)))
                model = Model(book, live.signs_now, kind is Careful)
                word = live.signs_now
                for _ in range(30):
                    event = some_event(chance, model)
                    if model.reason(event) is not None or (
                            event[0] == 'widen' and book[0] ** model.book[1] > 130):
                        continue
                    lost, back = live.lost_now, live.back_now
                    live.happen(event)
                    model.apply(event)
                    if event[0] == 'write':
                        word = event[1]
                    if event[0] == 'widen':
                        word = live.signs_now
                    self.assertEqual(live.signs_now, tuple(
                        None if place in live.lost_now else sign for place, sign in enumerate(word)))
                    if event[0] in ('mend', 'going'):
                        mended = set(lost) - set(live.lost_now)
                        self.assertLessEqual(mended, set(back))
                        self.assertEqual(live.back_now, tuple(at for at in back if at not in mended))
                    if event[0] == 'lose':
                        self.assertLessEqual(set(live.back_now), {*back, event[1]})
                    self.assertEqual(None not in live.mended(), live.back_now == live.lost_now)
                    if kind is Careful:
                        self.assertEqual(live.back_now, live.lost_now)
                    self.assertEqual(live.told(), replayed(live.story()).told())

    def test_told_back_or_alike(self):
        # (T1) at each moment: of each lost place a sum tells it, or two words differ at it.
        chance = Random(75)
        for book in small_books(most_words=130, each=2):
            live = Live(book, words_of(book)[0])
            led(chance, live, Model(book, words_of(book)[0]), 12)
            for place in live.lost_now:
                alike = [word for word in words_of(live.book_now) if word[place] and not any(
                    sign for at, sign in enumerate(word) if at not in live.lost_now)]
                self.assertIs(live(place) is None, len(alike) > 0)

    def test_replayed_at_each_moment(self):
        # (T6)
        chance = Random(76)
        for book in small_books(most_words=130, each=1):
            live, model = Live(book, words_of(book)[-1]), Model(book, words_of(book)[-1])
            for _ in range(12):
                led(chance, live, model, 1)
                other = replayed(live.story())
                self.assertEqual(everything(other), everything(live))
                self.assertEqual(other, live)

    def test_goings_do_not_depend_on_their_order(self):
        # (T5): all goings, or mended one by one by any sum of the book itself.
        chance = Random(77)
        for book in small_books(most_words=130, each=3):
            word = chance.choice(words_of(book))
            for lost in all_lots(book[1]):
                live = Live(book, word)
                for place in lost:
                    live.lose(place)
                one = replayed(live.story())
                while live.barred(('going',)) is None:
                    live.going()
                left = list(lost)
                while True:
                    able = [place for place in left for numbers in book[2]
                            if [at for at in left if numbers[at]] == [place]]
                    if not able:
                        break
                    place = chance.choice(able)
                    one.mend(place)
                    left.remove(place)
                self.assertEqual(one.lost_now, live.lost_now)

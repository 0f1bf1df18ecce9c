import unittest
from copy import deepcopy
from random import Random

from helpers import BIG, EVEN, FREE, ODD, PAIRS, Raising, small_books
from mendfew.errors import Broken, InvalidEvent, MendError, NothingToUndo
from mendfew.livelogs import replayed
from mendfew.lives import Careful, Live, rehearsed
from shelves import Model, led, some_event, spoiled_event, words_of
from test_lives import ONE, Derived, Shelf, everything


class UndoTest(Shelf, unittest.TestCase):
    def test_nothing_to_undo(self):
        for kind in (Live, Careful):
            live = kind(PAIRS, ONE)
            self.raises('NothingToUndo', {'steps': 0}, live.undo)
            live.lose(0)
            self.same(live.undo(), ('lose', 0))
            self.raises('NothingToUndo', {'steps': 0}, live.undo)
            self.same(live.counts(), (4, 4))
            self.same(everything(live), everything(Live(PAIRS, ONE)))

    def test_back_to_the_beginning(self):
        chance = Random(78)
        for kind in (Live, Careful):
            for book in small_books(most_words=60, each=2):
                word = chance.choice(words_of(book))
                live, model = kind(book, word), Model(book, word, kind is Careful)
                told = []
                for _ in range(15):
                    before, many = everything(live), len(live)
                    led(chance, live, model, 1)
                    if len(live) > many:
                        told.append(before)
                while told:
                    self.same(live.undo(), model.undo())
                    self.same(everything(live), told.pop())
                self.raises('NothingToUndo', {'steps': 0}, live.undo)

    def test_an_event_that_is_undone_may_happen_again(self):
        live = Live(PAIRS, ONE)
        event = ('widen', (1, 0, 1, 0))
        live.happen(event)
        before = everything(live)
        self.same([live.undo(), live.book_now, live.signs_now], [event, PAIRS, ONE])
        live.happen(event)
        self.same(everything(live), before)


class TrialTest(Shelf, unittest.TestCase):
    def test_what_is_done_and_taken_back_within_is_undone(self):
        for kind in (Live, Careful, Derived):
            live = kind(PAIRS, ONE)
            live.lose(0), live.mark('m')
            before = everything(live)
            with live.trial() as held:
                self.assertIs(held, live)
                held.lose(2), held.going(), live.mark('n')
                live.widen((1, 0, 1, 0))
                self.same(len(live), 6)
            self.same(everything(live), before)
            self.same(live.counts(), (6, 6))
            with live.trial():
                self.same([live.undo(), live.undo()], [('mark', 'm'), ('lose', 0)])
                self.raises('NothingToUndo', {'steps': 0}, live.undo)
                live.write((0, 0, 1, 1))
            self.same(everything(live), before)
            self.same(live.counts(), (10, 10))
            # What was there before can still be undone.
            self.same([live.undo(), live.undo(), live.story()], [('mark', 'm'), ('lose', 0), (('live', PAIRS, ONE),)])

    def test_behind_an_error(self):
        live = Live(PAIRS, ONE)
        live.lose(0)
        before = everything(live)
        with self.assertRaises(InvalidEvent) as caught:
            with live.trial() as held:
                held.mend(0)
                held.lose(4)
        self.same([caught.exception.event, caught.exception.reason], [('lose', 4), 'place'])
        self.same([everything(live), live.counts()], [before, (3, 3)])
        for error in (KeyError, ZeroDivisionError, KeyboardInterrupt, StopIteration):
            with self.assertRaises(error):
                with live.trial():
                    live.write((0, 0, 0, 0))
                    raise error
            self.same(everything(live), before)
        for _ in range(3):
            with live.trial():
                live.mend(0)
                if live.lost_now == ():
                    break
        self.same(everything(live), before)

    def test_within_another_one(self):
        live = Live(PAIRS, ONE)
        live.mark('a')
        first = everything(live)
        with live.trial():
            live.lose(0)
            second = everything(live)
            with live.trial() as held:
                held.going(), held.mark('b')
                with held.trial():
                    held.undo(), held.undo(), held.undo(), held.undo()
                    self.same(len(held), 0)
                self.same(list(held)[-1], ('mark', 'b'))
            self.same(everything(live), second)
            with self.assertRaises(InvalidEvent):
                with live.trial():
                    live.lose(2)
                    live.lose(2)
            self.same(everything(live), second)
        self.same(everything(live), first)

    def test_called_plainly(self):
        live = Live(PAIRS, ONE)
        live.trial()
        live.lose(0)
        self.same([live.lost_now, live.counts()], [(0,), (1, 1)])
        # It begins with the call, not where it is entered.
        trial = live.trial()
        live.lose(2)
        with trial as held:
            self.assertIs(held, live)
            self.same(live.lost_now, (0, 2))
            live.going()
        self.same([live.lost_now, live.counts()], [(0,), (3, 3)])

    def test_of_two_shelves(self):
        first, second = Live(PAIRS, ONE), Live(PAIRS, ONE)
        with first.trial() as one, second.trial() as other:
            one.lose(0), other.lose(1)
            self.same([first.lost_now, second.lost_now], [(0,), (1,)])
        self.same([first.lost_now, second.lost_now], [(), ()])
        with first.trial():
            second.lose(1)
        self.same([first.lost_now, second.lost_now], [(), (1,)])

    def test_in_place_within(self):
        live = Live(PAIRS, ONE)
        with live.trial() as held:
            held += ('lose', 0)
            self.same(live.lost_now, (0,))
        self.same([live.lost_now, live.counts()], [(), (1, 1)])


class TriedTest(Shelf, unittest.TestCase):
    def test_tells_and_changes_nothing(self):
        chance = Random(79)
        for kind in (Live, Careful):
            for book in small_books(most_words=60, each=2):
                word = chance.choice(words_of(book))
                live, model = kind(book, word), Model(book, word, kind is Careful)
                led(chance, live, model, 4)
                before, counts = everything(live), live.counts()
                for _ in range(20):
                    other, events = deepcopy(model), []
                    for _ in range(chance.randrange(1, 4)):
                        event = some_event(chance, other)
                        if event[0] == 'widen':
                            continue
                        events.append(event)
                        reason = other.reason(event)
                        if reason is not None:
                            self.refused(reason, event, live.tried, *events)
                            break
                        other.apply(event)
                    else:
                        if events:
                            self.same(live.tried(*events), other.told())
                self.same([everything(live), live.counts()], [before, counts])

    def test_first_error(self):
        live = Live(PAIRS, ONE)
        self.refused('gone', ('lose', 0), live.tried, ('lose', 0), ('lose', 0), ('lose', 9), None)
        self.refused('shape', None, live.tried, None, ('lose', 9))
        self.refused('risk', ('lose', 1), Careful(PAIRS, ONE).tried, ('lose', 0), ('lose', 1))
        self.same(live.counts(), (0, 0))
        with self.assertRaises(TypeError):
            live.tried()


class DoAllTest(Shelf, unittest.TestCase):
    def test_all_in_order(self):
        live = Live(PAIRS, ONE)
        self.same(live.do_all(('lose', 0)), 1)
        self.same(live.do_all(('lose', 2), ('going',), ('mark', 'm')), 3)
        self.same(live.do_all(('lose', 2), ('mend', 2), keep=True), 2)
        self.same(live.do_all(('lose', 3), keep=False), 1)
        self.same(list(live), [
            ('lose', 0), ('lose', 2), ('going',), ('mark', 'm'), ('lose', 2), ('mend', 2), ('lose', 3)])
        self.same(live.counts(), (4, 4))
        with self.assertRaises(TypeError):
            live.do_all()

    def test_one_is_refused(self):
        events = (('lose', 0), ('lose', 2), ('lose', 0), ('lose', 9))
        for kind in (Live, Careful):
            for more, kept in (({}, 0), ({'keep': False}, 0), ({'keep': True}, 2)):
                live = kind(PAIRS, ONE)
                live.mark('m')
                with self.assertRaises(Broken) as caught:
                    live.do_all(*events, **more)
                self.same(vars(caught.exception), {'done': 2})
                cause = caught.exception.__cause__
                self.assertIs(type(cause), InvalidEvent)
                self.same(vars(cause), {'event': ('lose', 0), 'reason': 'gone'})
                self.same(list(live), [('mark', 'm'), *events[:kept]])
                self.same(live.counts(), (2, 2))
                other = kind(PAIRS, ONE)
                other.mark('m')
                for event in events[:kept]:
                    other.happen(event)
                self.same(everything(live), everything(other))

    def test_the_first_one_is_refused(self):
        for keep in (False, True):
            live = Live(PAIRS, ONE)
            live.lose(0)
            for event in ODD + [('lose', 0), ('lose', True), ['lose', 1]]:
                before = deepcopy(event)
                with self.assertRaises(Broken) as caught:
                    live.do_all(event, ('lose', 1), keep=keep)
                self.same(caught.exception.done, 0)
                self.same(caught.exception.__cause__.event, event)
                self.assertEqual(event, before)
            self.same(list(live), [('lose', 0)])

    def test_keep_that_is_no_bool(self):
        live = Live(PAIRS, ONE)
        count = 0
        for keep in [thing for thing in ODD if thing is not True and thing is not False] + [0, 1, 'True', (True,)]:
            for events in ((('lose', 0),), (None,), (('lose', 9), ('lose', 0))):
                self.not_usable('keep', live.do_all, *events, keep=keep)
                count += 1
                self.same(live.counts(), (count, count))
        self.same(list(live), [])

    def test_any_events(self):
        chance = Random(80)
        for kind in (Live, Careful):
            for book in small_books(most_words=60, each=2):
                word = chance.choice(words_of(book))
                for _ in range(12):
                    live, model = kind(book, word), Model(book, word, kind is Careful)
                    led(chance, live, model, 3)
                    before, other = everything(live), deepcopy(model)
                    keep, events, done, stopped = chance.choice((False, True)), [], 0, False
                    for _ in range(chance.randrange(1, 5)):
                        event = some_event(chance, other)
                        if chance.randrange(5) == 0:
                            event = spoiled_event(chance, event)
                        if event[:1] == ('widen',):
                            continue
                        events.append(event)
                        stopped = stopped or other.reason(event) is not None
                        if not stopped:
                            other.apply(event)
                            done += 1
                    if not events:
                        continue
                    if not stopped:
                        self.same(live.do_all(*events, keep=keep), done)
                        self.like(live, other)
                    else:
                        self.raises('Broken', {'done': done}, live.do_all, *events, keep=keep)
                        if keep:
                            self.like(live, other)
                        else:
                            self.same(everything(live), before)


class CountsTest(Shelf, unittest.TestCase):
    def counted(self, live, more, call, *args, **names):
        """What a call adds to the counts, also with an error."""
        before = live.counts()
        try:
            call(*args, **names)
        except MendError:
            pass
        self.same(live.counts(), (before[0] + more, before[1] + more))

    def test_each_kind_of_call(self):
        for kind in (Live, Careful, Derived):
            live = kind(PAIRS, ONE)
            self.same(live.counts(), (0, 0))
            for call, args in (
                    (live.happen, (('lose', 0),)), (live.happen, (('lose', 0),)), (live.happen, (None,)),
                    (live.lose, (2,)), (live.lose, (9,)), (live.lose, (None,)), (live.mend, (0,)), (live.mend, (0,)),
                    (live.going, ()), (live.going, ()), (live.write, ((0, 0, 1, 1),)), (live.write, ((0, 0, 1),)),
                    (live.widen, ((0, 0, 0, 0),)), (live.widen, ((0,),)), (live.mark, ('m',)), (live.mark, ('m',)),
                    (live.mark, ('M',)), (live.undo, ()), (live.do_all, (('lose', 0), ('lose', 2))),
                    (live.do_all, (('lose', 0), ('lose', 2))), (live.do_all, (None,))):
                self.counted(live, 1, call, *args)
            self.counted(live, 1, live.do_all, ('mend', 0), ('mend', 0), keep=True)
            self.counted(live, 1, live.do_all, ('mend', 0), keep=None)
            self.counted(live, 1, rehearsed, live, ('mend', 2), ('lose', 2))
            self.counted(live, 1, rehearsed, live, None)
            fresh = kind(PAIRS, ONE)
            self.counted(fresh, 1, fresh.undo)

    def test_all_else_counts_nothing(self):
        live = Live(PAIRS, ONE)
        live.lose(0), live.mark('m')
        for call, args in (
                (live.barred, (('lose', 2),)), (live.barred, (None,)), (live.told, ()), (live.mended, ()),
                (live.tried, (('lose', 2), ('mend', 0))), (live.tried, (None,)), (live.trial, ()),
                (live.counts, ()), (live.since, ('m',)), (live.since, ('x',)), (live.table, ()), (live.story, ()),
                (live, (0,)), (live, (9,)), (live.__getitem__, (0,)), (live.__getitem__, (9,)),
                (everything, (live,)), (replayed, (live.story(),)), (live.__eq__, (live,))):
            self.counted(live, 0, call, *args)
        self.same(live.counts(), (2, 2))

    def test_within_a_trial(self):
        live = Live(PAIRS, ONE)
        with live.trial():
            live.lose(0), live.undo(), live.do_all(('lose', 1), ('lose', 2))
            self.raises('NotUsable', {'word': 'keep', 'at': -1}, live.do_all, None, keep=0)
        self.same([live.counts(), len(live)], [(4, 4), 0])

    def test_undone_events_still_count(self):
        live = Live(PAIRS, ONE)
        live.lose(0), live.undo(), live.lose(0), live.undo()
        self.same([live.counts(), len(live)], [(4, 4), 0])

    def test_what_do_all_applies_counts_nothing(self):
        live = Live(PAIRS, ONE)
        live.do_all(*[('write', ONE)] * 30)
        self.same([live.counts(), len(live)], [(1, 1), 30])


class RehearsedTest(Shelf, unittest.TestCase):
    def test_tells_and_changes_nothing_but_counts(self):
        for kind in (Live, Careful, Derived):
            live = kind(PAIRS, ONE)
            live.lose(0)
            before = everything(live)
            self.same(rehearsed(live, ('lose', 2), ('going',)), live.tried(('lose', 2), ('going',)))
            self.same(rehearsed(live, ('mend', 0)), (PAIRS, ONE, ()))
            self.same(rehearsed(event=('lose', 3), live=live), (PAIRS, (None, 1, 0, None), (0, 3)))
            self.same([everything(live), live.counts()], [before, (4, 4)])

    def test_its_error(self):
        live = Live(PAIRS, ONE)
        before = everything(live)
        with self.assertRaises(Broken) as caught:
            rehearsed(live, ('lose', 0), ('lose', 2), ('lose', 2))
        self.same(caught.exception.done, 2)
        self.same(vars(caught.exception.__cause__), {'event': ('lose', 2), 'reason': 'gone'})
        self.same([everything(live), live.counts()], [before, (1, 1)])
        self.raises('Broken', {'done': 0}, rehearsed, live, None)
        self.raises('Broken', {'done': 1}, rehearsed, Careful(PAIRS, ONE), ('lose', 0), ('lose', 1))

    def test_any_other_value(self):
        for live in ODD + [0, PAIRS, Live(PAIRS, ONE).story(), ('live', PAIRS, ONE)]:
            self.not_usable('live', rehearsed, live, ('lose', 0))
            self.not_usable('live', rehearsed, live, None)
        with self.assertRaises(TypeError):
            rehearsed(Live(PAIRS, ONE))

    def test_within_a_trial(self):
        live = Live(EVEN, (1, 1, 1))
        with live.trial():
            live.lose(0)
            self.same(rehearsed(live, ('mend', 0), ('lose', 2))[1], (1, 1, None))
            self.same(live.lost_now, (0,))
        self.same([live.lost_now, live.counts()], [(), (2, 2)])


class KindsTest(Raising, unittest.TestCase):
    def test_errors_are_of_their_families(self):
        live = Live(FREE, (0, 1))
        with self.assertRaises(NothingToUndo) as caught:
            live.undo()
        self.same(vars(caught.exception), {'steps': 0})
        for event in (('lose', BIG), ('lose', [0]), None, (), 'going', ('mark', 'm' * 9)):
            with self.assertRaises(InvalidEvent) as caught:
                live.happen(event)
            self.assertIs(caught.exception.event, event)

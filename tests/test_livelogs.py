import unittest
from copy import deepcopy
from random import Random

from faults import spoiled
from helpers import EVEN, FREE, NOT_BOOKS, PAIRS, Raising, small_books
from mendfew.bookclasses import Book
from mendfew.errors import InvalidEvent
from mendfew.livelogs import is_story, replayed
from mendfew.lives import Careful, Live
from shelves import Model, event_form, led, some_event, words_of
from test_lives import ONE, everything

BEGUN = ('live', PAIRS, ONE)
STORY = (BEGUN, ('lose', 0), ('mark', 'm'), ('widen', (1, 0, 1, 0)), ('going',))


def story_form(thing, book_form):
    """Whether any value is a story; book_form tells whether any value is a pair of a book and a word of it."""
    if type(thing) is not tuple or not thing:
        return False
    first = thing[0]
    if type(first) is not tuple or len(first) != 3 or type(first[0]) is not str or first[0] != 'live':
        return False
    return book_form(first[1], first[2]) and all(event_form(first[1][0], event) for event in thing[1:])


class StoryTest(Raising, unittest.TestCase):
    def judged(self, thing, told):
        before = deepcopy(thing)
        self.assertIs(is_story(thing), told)
        if not told:
            self.not_usable('story', replayed, thing)
        self.assertEqual(thing, before)

    def test_stories(self):
        for thing in (
                (BEGUN,), STORY, (('live', FREE, (0, 1)),), (('live', (2, 1, ((1,),)), (0,)), ('lose', 0)),
                # By form, possible or not.
                (BEGUN, ('mend', 0)), (BEGUN, ('lose', 9), ('lose', 9)), (BEGUN, ('write', (1, 0))),
                (BEGUN, ('widen', (1,) * 100)), (BEGUN, *[('going',)] * 100), (BEGUN, ('mark', 'a'), ('mark', 'a'))):
            self.judged(thing, True)

    def test_other_values(self):
        for thing in NOT_BOOKS + [
                'live', ('live',), BEGUN, ('live', PAIRS, ONE, ('lose', 0)), [BEGUN], [BEGUN, ('lose', 0)],
                (list(BEGUN),), (('Live', PAIRS, ONE),), ((None, PAIRS, ONE),), (('live', PAIRS),),
                (('live', PAIRS, ONE, ()),), (('live', PAIRS, (1, 0, 0, 0)),), (('live', PAIRS, (1, 1, 0)),),
                (('live', PAIRS, [1, 1, 0, 0]),), (('live', PAIRS, (True, 1, 0, 0)),),
                (('live', PAIRS, (None, 1, 0, 0)),), (('live', [2, 4, PAIRS[2]], ONE),),
                (('live', (4, 4, PAIRS[2]), ONE),), (('live', (2, 4, list(PAIRS[2])), ONE),),
                (('live', (2, 4, (PAIRS[2][0], [0, 0, 1, 1])), ONE),), (('live', (2, 4, ((1, True, 0, 0),)), ONE),),
                (('live', (2, 0, ()), ()),), (BEGUN, ['lose', 0]), (BEGUN, ('lose', True)), (BEGUN, ('lose', -1)),
                (BEGUN, ('lose', 0), None), (BEGUN, ('write', (1, 2, 0, 0))), (BEGUN, ('write', [1, 1, 0, 0])),
                (BEGUN, ('widen', (1, False, 0, 0))), (BEGUN, ('widen', ())), (BEGUN, ('mark', 'abcdefghi')),
                (BEGUN, ('undo',)), (BEGUN, BEGUN), (('lose', 0),), (('lose', 0), BEGUN), ((BEGUN,),),
                Live(PAIRS, ONE), Book.of(PAIRS)]:
            self.judged(thing, False)

    def test_any_spoiled_story(self):
        chance = Random(81)
        seen = set()
        for _ in range(2500):
            model = Model(PAIRS, ONE)
            story = (BEGUN, *[some_event(chance, model) for _ in range(chance.randrange(4))])
            for _ in range(chance.randrange(3)):
                story = spoiled(chance, story, [0, 1, True, None, 'live', 'lose', ('going',), BEGUN, [0]])
            book = story[0][1] if type(story) is tuple and story and type(story[0]) is tuple and len(
                story[0]) == 3 else None
            # Some other books come about by chance.
            if repr(book) != repr(PAIRS) and is_story(story):
                seen.add('other')
                continue
            told = story_form(story, lambda book, signs: repr(book) == repr(PAIRS) and type(signs) is tuple and all(
                type(sign) is int for sign in signs) and signs in words_of(PAIRS))
            self.judged(story, told)
            seen.add(told)
        self.assertTrue({True, False} <= seen)

    def test_by_name(self):
        self.same(is_story(thing=STORY), True)
        self.same(replayed(story=STORY[:1]).story(), STORY[:1])


class ReplayedTest(Raising, unittest.TestCase):
    def test_a_new_live_shelf(self):
        story = (BEGUN, ('lose', 0), ('lose', 2), ('mark', 'm'), ('going',))
        live = replayed(story)
        self.assertIs(type(live), Live)
        self.same([live.counts(), live.story(), live.signs_now, live.since('m')], [(0, 0), story, ONE, (('going',),)])
        self.assertIsNot(replayed(story), live)
        self.same([live.undo(), live.counts(), replayed(story).story()], [('going',), (1, 1), story])
        self.same(live.lost_now, (0, 2))
        for _ in range(3):
            live.undo()
        self.raises('NothingToUndo', {'steps': 0}, live.undo)

    def test_of_any_shelf(self):
        chance = Random(82)
        for kind in (Live, Careful):
            for book in small_books(most_words=130, each=2):
                word = chance.choice(words_of(book))
                live = kind(book, word)
                led(chance, live, Model(book, word, kind is Careful), 15)
                other = replayed(live.story())
                self.assertIs(type(other), Live)
                self.assertTrue(other == live and live == other)
                self.same(everything(other), everything(live))
                self.same(other.counts(), (0, 0))

    def test_the_first_error(self):
        for events, event, reason in (
                ((('mend', 0),), ('mend', 0), 'there'), ((('lose', 0), ('lose', 0), ('lose', 9)), ('lose', 0), 'gone'),
                ((('lose', 9), ('mend', 0)), ('lose', 9), 'place'), ((('going',),), ('going',), 'none'),
                ((('write', (1, 0, 0, 0)),), ('write', (1, 0, 0, 0)), 'word'),
                ((('mark', 'a'), ('mark', 'a')), ('mark', 'a'), 'twice'),
                ((('widen', (1, 0)),), ('widen', (1, 0)), 'many')):
            with self.assertRaises(InvalidEvent) as caught:
                replayed((BEGUN, *events))
            self.same([caught.exception.event, caught.exception.reason], [event, reason])

    def test_full(self):
        story = (BEGUN, *[('write', ONE)] * 40)
        self.same(len(replayed(story)), 40)
        for event in (('write', ONE), ('lose', 9), ('going',)):
            self.raises('InvalidEvent', {'event': event, 'reason': 'full'}, replayed, (*story, event))

    def test_a_loss_that_is_a_risk_is_none_here(self):
        self.same(replayed((BEGUN, ('lose', 0), ('lose', 1))).back_now, ())
        self.same(replayed((('live', EVEN, (1, 1, 1)), ('lose', 0))).counts(), (0, 0))

import unittest
from copy import deepcopy
from random import Random

from helpers import BIG, EVEN, FREE, NOT_BOOKS, ODD, PAIRS, Raising, small_books
from mendfew.booktexts import book_text, signs_text
from mendfew.livereadings import read_event, read_story
from mendfew.lives import Live
from mendfew.livetexts import event_line, story_lines
from shelves import Model, event_form, led, some_event, words_of
from test_livelogs import BEGUN, STORY
from test_lives import ONE


class TextsTest(Raising, unittest.TestCase):
    def test_examples(self):
        self.same(
            [event_line(EVEN, ('widen', (0, 2))), event_line(FREE, ('going',)), read_event(EVEN, 'lose 12'),
             read_event(EVEN, 'write 2 0')],
            ['widen 0 2', 'going', ('lose', 12), ('write', (2, 0))])
        self.same(
            [story_lines((('live', FREE, (0, 1)), ('mark', 'm'))),
             read_story(['live', 'book 3 1', 'sum 2', 'signs 0', 'mend 0'])],
            [['live', 'book 2 2', 'signs 0 1', 'mark m'], (('live', (3, 1, ((2,),)), (0,)), ('mend', 0))])

    def test_lines_of_events(self):
        for event, line in (
                (('lose', 0), 'lose 0'), (('mend', BIG), f'mend {BIG}'), (('going',), 'going'),
                (('write', (2, 0, 1)), 'write 2 0 1'), (('widen', (0,)), 'widen 0'), (('mark', 'abcdefgh'), 'mark abcdefgh'),
                (('write', (1,) * 100), 'write' + ' 1' * 100), (('mark', 'going'), 'mark going')):
            self.same(event_line(EVEN, event), line)
        self.same(event_line((999983, 1, ()), ('write', (999982, 0))), 'write 999982 0')

    def test_lines_of_stories(self):
        self.same(story_lines(STORY), [
            'live', 'book 2 4', 'sum 1 1 0 0', 'sum 0 0 1 1', 'signs 1 1 0 0', 'lose 0', 'mark m', 'widen 1 0 1 0',
            'going'])
        self.same(story_lines((BEGUN,)), ['live', 'book 2 4', 'sum 1 1 0 0', 'sum 0 0 1 1', 'signs 1 1 0 0'])
        self.same(story_lines((('live', FREE, (1, 0)), ('lose', 99))), ['live', 'book 2 2', 'signs 1 0', 'lose 99'])
        lines = story_lines(STORY)
        lines.clear()
        self.assertEqual(len(story_lines(STORY)), 9)

    def test_any_story(self):
        chance = Random(83)
        for book in small_books(most_words=130, each=2):
            word = chance.choice(words_of(book))
            live = Live(book, word)
            led(chance, live, Model(book, word), 15)
            lines = story_lines(live.story())
            self.same(lines, [
                'live', *book_text(book).split('\n'), f'signs {signs_text(book, word)}',
                *[event_line(book, event) for event in live]])
            self.same(read_story(lines), live.story())
            for event in live:
                self.same(read_event(book, event_line(book, event)), event)

    def test_any_event_by_form(self):
        chance = Random(84)
        for book in small_books(most_words=60, each=1) + [(13, 12, ()), (999983, 3, ())]:
            model = Model(book, (0,) * book[1])
            for _ in range(30):
                event = some_event(chance, model) if book[0] ** book[1] < 100 else ('write', tuple(
                    chance.randrange(book[0]) for _ in range(chance.randrange(1, 101))))
                self.same(read_event(book, event_line(book, event)), event)

    def test_wrong_values(self):
        for book in NOT_BOOKS:
            self.not_usable('book', event_line, book, ('going',))
            self.not_usable('book', event_line, book, None)
        for event in NOT_BOOKS + [
                'going', ['going'], ('lose', True), ('lose', -1), ('write', (3,)), ('write', [0]), ('widen', ()),
                ('mark', 'A'), ('mark', 'abcdefghi'), ('undo',), ('lose', 0, 0)]:
            self.assertFalse(event_form(3, event))
            before = deepcopy(event)
            self.not_usable('event', event_line, EVEN, event)
            self.assertEqual(event, before)
        for story in ODD + [
                BEGUN, [BEGUN], (list(BEGUN),), (('live', PAIRS, (1, 0, 0, 0)),), (('live', PAIRS, list(ONE)),),
                (BEGUN, None), (BEGUN, ['lose', 0]), (BEGUN, ('lose', True)), Live(PAIRS, ONE)]:
            before = deepcopy(story) if not isinstance(story, Live) else story
            self.not_usable('story', story_lines, story)
            self.assertEqual(story, before)

    def test_by_name_in_any_order(self):
        self.same(event_line(event=('lose', 1), book=EVEN), 'lose 1')
        self.same(story_lines(story=(BEGUN,))[0], 'live')

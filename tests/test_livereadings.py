import unittest
from random import Random

from helpers import BIG, EVEN, FREE, NOT_BOOKS, ODD, Raising
from mendfew.errors import InvalidText
from mendfew.livelogs import replayed
from mendfew.livereadings import read_event, read_story
from mendfew.livetexts import event_line, story_lines
from mendfew.liveevents import is_event
from mendfew.livelogs import is_story
from shelves import Model, some_event
from test_livelogs import STORY

LINES = ['live', 'book 3 2', 'sum 1 2', 'sum 2 1', 'signs 1 1', 'lose 0', 'mark m']


class EventTest(Raising, unittest.TestCase):
    def refused(self, text, field, book=EVEN):
        self.raises('InvalidText', {'line': 0, 'field': field}, read_event, book, text)

    def test_examples(self):
        self.same(
            [read_event(EVEN, 'lose 12'), read_event(EVEN, 'write 2 0')], [('lose', 12), ('write', (2, 0))])
        self.refused('widen 0 3', 2)

    def test_read(self):
        for text, event in (
                ('lose 0', ('lose', 0)), (f'mend {BIG}', ('mend', BIG)), ('going', ('going',)),
                ('write 2 0 1', ('write', (2, 0, 1))), ('widen 0', ('widen', (0,))), ('mark m', ('mark', 'm')),
                ('mark abcdefgh', ('mark', 'abcdefgh')), ('mark lose', ('mark', 'lose')),
                ('write' + ' 2' * 100, ('write', (2,) * 100))):
            self.same(read_event(EVEN, text), event)
        self.same(read_event((999983, 1, ()), 'write 999982'), ('write', (999982,)))

    def test_first_words(self):
        for text in ('', ' ', 'Lose 0', 'loose 0', 'lose\n 0', ' lose 0', '\n', 'goin', 'going\n', '0', 'undo', 'live',
                     'lose\t0', 'LOSE 0', 'writes 0', 'signs 0', 'mark\nm', 'x' * 4000):
            self.refused(text, 0)

    def test_places(self):
        for first in ('lose', 'mend'):
            for text in ('', ' ', ' a', ' -1', ' 01', ' 00', ' 1.0', ' +1', ' 1\n', ' \n1', '  1', ' ' + '1' * 61,
                         ' 1_0', ' a 1', ' - 1 1', ' 0x1'):
                self.refused(first + text, 1)
            for text in (' 0 ', ' 0 0', ' 1 a', ' 0 \n', ' 12  '):
                self.refused(first + text, 2)
            self.same(read_event(EVEN, first + ' ' + '9' * 60), (first, BIG))

    def test_names(self):
        for text in ('', ' ', ' A', ' abcdefghi', ' a1', ' m\n', ' \nm', '  m', ' mM', ' -', ' 1', ' abcdefghi m'):
            self.refused('mark' + text, 1)
        for text in (' m ', ' m m', ' m \n', ' abcdefgh a b'):
            self.refused('mark' + text, 2)

    def test_numbers(self):
        for first in ('write', 'widen'):
            for text, field in (
                    ('', 1), (' ', 1), (' 3', 1), (' a', 1), (' 0 3', 2), (' 0 ', 2), (' 0  1', 2), (' 1 01', 2),
                    (' 1 1\n', 2), (' -1', 1), (' 0 1 2 3 4', 4), (' 2 2 2 x', 4), (' 1 ' + '0' * 2, 2)):
                self.refused(first + text, field)
            # A hundred numbers at most: the next one is one too many.
            self.refused(first + ' 1' * 101, 101)
            self.refused(first + ' 1' * 101 + ' 3', 101)
            self.refused(first + ' 1' * 99 + ' 3 1 1', 100)
            self.refused(first + ' 1' * 1500, 101)
            self.refused(first + ' 2', 1, FREE)

    def test_going(self):
        for text in ('going ', 'going 0', 'going going', 'going \n'):
            self.refused(text, 1)

    def test_wrong_values(self):
        for book in NOT_BOOKS:
            self.not_usable('book', read_event, book, 'going')
            self.not_usable('book', read_event, book, None)
        for text in [value for value in ODD if not isinstance(value, str)] + [0, ('going',), ['going']]:
            self.not_usable('text', read_event, EVEN, text)

    def test_by_name_in_any_order(self):
        self.same(read_event(text='lose 1', book=EVEN), ('lose', 1))

    def test_spoiled_lines(self):
        chance = Random(85)
        seen = {True: 0, False: 0}
        for _ in range(4000):
            line = event_line(EVEN, some_event(chance, Model(EVEN, (0, 0, 0))))
            for _ in range(chance.randrange(3)):
                at = chance.randrange(len(line) + 1)
                more = chance.choice(('', ' ', '0', '1', '3', 'm', 'a', 'lose', '\n', '-'))
                line = line[:at] + more + line[at + chance.randrange(2):]
            try:
                event = read_event(EVEN, line)
            except InvalidText as error:
                self.assertEqual(error.line, 0)
                words = line.split(' ')
                self.assertLessEqual(error.field, len(words))
                # What is ahead of the word can stand: it can be gone on with.
                ahead = ' '.join(words[:error.field])
                self.assertTrue(error.field == 0 or any(
                    able(ahead + more) for more in ('', ' 0', ' m')), (line, error.field))
                if error.field < len(words):
                    upto = ' '.join(words[:error.field + 1])
                    self.assertFalse(any(able(upto + more) for more in ('', ' 0', ' m')), (line, error.field))
                seen[False] += 1
            else:
                self.assertTrue(is_event(EVEN, event))
                self.same(event_line(EVEN, event), line)
                seen[True] += 1
        self.assertGreater(min(seen.values()), 500)


def able(line):
    try:
        read_event(EVEN, line)
    except InvalidText:
        return False
    return True


class StoryTest(Raising, unittest.TestCase):
    def refused(self, line, field, lines):
        before = list(lines)
        self.raises('InvalidText', {'line': line, 'field': field}, read_story, lines)
        self.assertEqual(lines, before)

    def test_examples(self):
        self.same(
            read_story(['live', 'book 3 1', 'sum 2', 'signs 0', 'mend 0']),
            (('live', (3, 1, ((2,),)), (0,)), ('mend', 0)))
        self.refused(2, 0, ['live', 'book 3 1', 'lose 0'])

    def test_read(self):
        self.same(read_story(LINES), (('live', (3, 2, ((1, 2), (2, 1))), (1, 1)), ('lose', 0), ('mark', 'm')))
        self.same(read_story(LINES[:5]), (('live', (3, 2, ((1, 2), (2, 1))), (1, 1)),))
        self.same(read_story(['live', 'book 2 1', 'signs 1']), (('live', (2, 1, ()), (1,)),))
        self.same(read_story(story_lines(STORY)), STORY)
        # Possible or not.
        self.same(read_story(LINES[:5] + ['mend 0', 'lose 9'])[1:], (('mend', 0), ('lose', 9)))
        self.same(len(read_story(LINES[:5] + ['going'] * 60)), 61)
        self.assertTrue(is_story(read_story(LINES)))

    def with_line(self, at, text):
        return LINES[:at] + [text] + LINES[at + 1:]

    def test_missing_lines(self):
        self.refused(0, 0, [])
        for many in range(1, 5):
            self.refused(many, 0, LINES[:many])
        self.refused(2, 0, ['live', 'book 2 1'])

    def test_first_line(self):
        for text in ('', 'Live', 'live\t', ' live', 'book 3 2', 'lives'):
            self.refused(0, 0, self.with_line(0, text))
        for text in ('live ', 'live live', 'live 0'):
            self.refused(0, 1, self.with_line(0, text))

    def test_line_of_the_book(self):
        for text, field in (
                ('', 0), ('Book 3 2', 0), ('sum 1 2', 0), ('signs 1 1', 0), ('book', 1), ('book ', 1), ('book 4 2', 1),
                ('book 03 2', 1), ('book 1000003 2', 1), ('book 3', 2), ('book 3 0', 2), ('book 3 101', 2),
                ('book 3 02', 2), ('book 3 2 ', 3), ('book 3 2 0', 3), ('book 4 0 0', 1)):
            self.refused(1, field, self.with_line(1, text))

    def test_lines_of_sums(self):
        for text, field in (
                ('', 0), ('sums 1 2', 0), ('lose 0', 0), ('Signs 1 1', 0), ('going', 0), ('book 3 2', 0), ('sum', 1),
                ('sum 1', 2), ('sum 1 3', 2), ('sum 3 1', 1), ('sum 1 2 0', 3), ('sum 1 2 ', 3), ('sum  1 2', 1),
                ('sum 0 0', 0), ('sum 1 -1', 2), ('sum 1 02', 2), ('live', 0)):
            self.refused(3, field, self.with_line(3, text))

    def test_line_of_the_signs(self):
        for text, field in (
                ('signs', 1), ('signs ', 1), ('signs 1', 2), ('signs 1 3', 2), ('signs 3 1', 1), ('signs 1 1 0', 3),
                ('signs 1 1 ', 3), ('signs 1 2', 0), ('signs 0 1', 0), ('signs 1 01', 2), ('signs - 1', 1)):
            self.refused(4, field, self.with_line(4, text))
        self.same(read_story(self.with_line(4, 'signs 0 0'))[0][2], (0, 0))

    def test_lines_of_events(self):
        for text, field in (
                ('', 0), ('sum 1 2', 0), ('signs 1 1', 0), ('lose', 1), ('lose x', 1), ('lose 0 0', 2), ('write', 1),
                ('write 3', 1), ('widen 0 0 3', 3), ('mark M', 1), ('mark m m', 2), ('going 0', 1), ('undo', 0),
                ('live', 0)):
            self.refused(5, field, self.with_line(5, text))
            self.refused(7, field, [*LINES, text])
            self.refused(7, field, [*LINES, text, 'nonsense'])

    def test_the_first_line_that_is_not_possible(self):
        self.refused(1, 1, ['live', 'book 4 2', 'sum 1', 'nonsense'])
        self.refused(0, 0, ['x', 'y'])
        self.refused(2, 0, ['live', 'book 3 2', 'sum 0 0', 'signs 3'])
        self.refused(4, 0, self.with_line(4, 'signs 1 2') + ['lose'])
        # Its signs are no word, though what they would be a word of is not read to its end.
        self.refused(3, 0, ['live', 'book 3 2', 'sum 1 2', 'signs 1 2', 'sum 1 1'])
        self.refused(4, 0, ['live', 'book 3 2', 'sum 1 2', 'signs 1 1', 'sum 1 1'])

    def test_wrong_values(self):
        for lines in ODD + [
                0, tuple(LINES), 'live', {}, [None], LINES + [None], LINES + [0], LINES + ['a\nb'], ['live\n'] + LINES[1:],
                [LINES], ['\n'], LINES + [('going',)], ['live', ['book 3 2']], [*LINES, '\n']]:
            if isinstance(lines, list) and all(isinstance(text, str) and '\n' not in text for text in lines):
                continue
            self.not_usable('lines', read_story, lines)

    def test_by_name(self):
        self.same(read_story(lines=LINES), read_story(LINES))

    def test_what_is_read_can_be_replayed(self):
        live = replayed(read_story(LINES))
        self.same([live.signs_now, live.marks_now], [(None, 1), ('m',)])
        self.same(story_lines(live.story()), LINES)

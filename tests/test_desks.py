import re
import unittest
from random import Random

from helpers import (
    BIG, EVEN, FREE, NOT_BOOKS, ODD, PAIRS, Raising, by_powers, small_books)
from mendfew.bookclasses import Book
from mendfew.desks import Desk
from mendfew.errors import InvalidEvent, InvalidRow, NothingToUndo, NotUsable
from mendfew.livelogs import replayed
from mendfew.lives import Live
from mendfew.livetexts import event_line, story_lines
from shelves import Model, led, some_event, words_of
from test_lives import ONE

READ = ('signs', 'lost', 'back', 'marks', 'mended', 'story', 'table')


def spaced(things):
    return ' '.join('-' if thing is None else str(thing) for thing in things) or '-'


def answers(live):
    """What a desk says of this live shelf, row by row."""
    book = live.book_now
    told = {
        'signs': spaced(live.signs_now), 'lost': spaced(live.lost_now), 'back': spaced(live.back_now),
        'marks': spaced(live.marks_now), 'mended': spaced(live.mended()), 'table': ' / '.join(live.table()),
        'story': ' / '.join(event_line(book, event) for event in live) or '-'}
    for name in live.marks_now:
        told[f'since {name}'] = ' / '.join(event_line(book, event) for event in live.since(name)) or '-'
    for place in range(book[1]):
        numbers = live(place)
        told[f'sum {place}'] = '-' if numbers is None else spaced(numbers)
    return told


class DeskTest(Raising, unittest.TestCase):
    def like(self, desk, live):
        """All that the desk says is what the live shelf tells."""
        for row, answer in answers(live).items():
            self.same(desk.say(row), answer)

    def no_row(self, desk, row):
        self.raises('InvalidRow', {'row': row}, desk.say, row)

    def test_examples(self):
        desk = Desk(PAIRS, (1, 1, 0, 0))
        self.same(
            [desk.say(row) for row in (
                'lose 1', 'signs', 'mended', 'lost', 'bars mend 0', 'table', 'undo', 'back')],
            ['1 1', '1 - 0 0', '1 1 0 0', '1', 'there', '0 1 there / 1 - back / 2 0 there / 3 0 there',
             'lose 1', '-'])

    def test_at_first(self):
        desk = Desk(signs=(0, 1), book=FREE)
        self.same([desk.say(row) for row in READ], ['0 1', '-', '-', '-', '0 1', '-', '0 0 there / 1 1 there'])
        self.same(desk.counts(), (7, 7))
        self.raises('NothingToUndo', {'steps': 0}, desk.say, 'undo')

    def test_events(self):
        desk = Desk(PAIRS, ONE)
        self.same(
            [desk.say(row) for row in (
                'lose 0', 'lose 1', 'lose 2', 'mark m', 'going', 'write 0 0 1 1', 'widen 1 0 1 0', 'lose 4',
                'mend 4', 'mark ab')],
            ['1 1', '2 0', '3 1', '3 1', '2 0', '0 0', '0 0', '1 1', '0 0', '0 0'])
        self.same(desk.say('story'), 'lose 0 / lose 1 / lose 2 / mark m / going / write 0 0 1 1 / widen 1 0 1 0 / '
                                     'lose 4 / mend 4 / mark ab')
        self.same([desk.say('marks'), desk.say('since m')], [
            'ab m', 'going / write 0 0 1 1 / widen 1 0 1 0 / lose 4 / mend 4 / mark ab'])
        self.assertIn(desk.say('sum 4'), ('1 0 1 0 1', '1 0 0 1 1', '0 1 1 0 1', '0 1 0 1 1'))
        self.same([desk.say('since ab'), desk.say('undo'), desk.say('undo')], ['-', 'mark ab', 'mend 4'])
        self.same([desk.say('signs'), desk.say('back'), desk.say('mended')], ['0 0 1 1 -', '4', '0 0 1 1 1'])

    def test_errors_of_the_live_shelf(self):
        desk = Desk(PAIRS, ONE)
        desk.say('lose 0')
        for row, event, reason in (
                ('lose 0', ('lose', 0), 'gone'), ('lose 4', ('lose', 4), 'place'), ('mend 1', ('mend', 1), 'there'),
                ('write 1 0 0 0', ('write', (1, 0, 0, 0)), 'word'), ('widen 1', ('widen', (1,)), 'many'),
                (f'mend {BIG}', ('mend', BIG), 'place'), ('widen 1 1 1 1', ('widen', (1, 1, 1, 1)), 'lost')):
            self.raises('InvalidEvent', {'event': event, 'reason': reason}, desk.say, row)
            self.same(desk.say('bars ' + row), reason)
        self.same([desk.say('bars mend 0'), desk.say('bars going'), desk.say('bars mark m')], ['-', '-', '-'])
        self.same(desk.say('story'), 'lose 0')

    def test_forty_events(self):
        desk = Desk(EVEN, (1, 1, 1))
        for _ in range(40):
            self.same(desk.say('write 0 0 0'), '0 0')
        self.raises('InvalidEvent', {'event': ('going',), 'reason': 'full'}, desk.say, 'going')
        self.same([desk.say('bars lose 0'), desk.say('undo'), desk.say('bars lose 0')], ['full', 'write 0 0 0', '-'])
        wide = Desk(by_powers(13, 12, 6), (0,) * 12)
        self.same(wide.say('bars widen' + ' 0' * 12), 'wide')

    def test_sums_and_places(self):
        desk = Desk(PAIRS, ONE)
        desk.say('lose 0')
        self.same([desk.say('sum 0')[:3], desk.say('sum 1')], ['1 1', '-'])
        for place in ('4', '12', str(BIG), '9' * 61, '1' + '0' * 3000, '9' * 4400):
            self.not_usable('place', desk.say, f'sum {place}')
        for place in ('', ' ', ' 0', '00', '01', '-1', 'a', '0 ', '0 0', '0\n', '+1', '1_0', '0' * 61, '0x1'):
            self.no_row(desk, f'sum {place}')
        self.no_row(desk, 'sum')

    def test_since(self):
        desk = Desk(PAIRS, ONE)
        for name in ('m', 'abcdefgh', 'going'):
            self.not_usable('mark', desk.say, f'since {name}')
        for name in ('', ' ', 'M', 'abcdefghi', 'm ', ' m', 'm m', 'm\n', 'm1', '0', '-'):
            self.no_row(desk, f'since {name}')
        self.no_row(desk, 'since')
        desk.say('mark m')
        self.same(desk.say('since m'), '-')

    def test_rows_that_are_none(self):
        desk = Desk(PAIRS, ONE)
        desk.say('mark m')
        for row in (
                '', ' ', '-', '0', '\n', 'x', 'Signs', 'signs ', ' signs', 'signs\n', 'signs 1 1 0 0', 'lost 0', 'back 0',
                'marks m', 'table 0', 'story 0', 'story ', 'undo ', 'undo 0', 'undo\n', 'mended 0', 'sums 0', 'bars', 'bars ',
                'bars undo', 'bars lose', 'bars lose x', 'bars  lose 0', 'bars lose 0 ', 'bars signs', 'bars bars lose 0',
                'barslose 0', 'lose', 'lose ', 'lose 01', 'lose x', 'lose 0 0', 'lose 0\n', 'lose -1', 'lose ' + '1' * 61,
                'write', 'write 2', 'write 1 1 0 2', 'write' + ' 1' * 101, 'widen', 'widen 2', 'mark', 'mark M',
                'mark abcdefghi', 'going ', 'going 0', 'live', 'counts', 'ok', 'x' * 4000, 'signs lost', 'lose 0 / mend 0',
                'lose 0\nmend 0', 'book 2 1'):
            self.no_row(desk, row)
        self.same([desk.say('story'), desk.say('signs')], ['mark m', '1 1 0 0'])

    def test_rows_that_are_strings_alone(self):
        desk = Desk(PAIRS, ONE)
        for row in [value for value in ODD if not isinstance(value, str)] + [0, ('undo',), ['signs'], ('lose', 0)]:
            self.not_usable('row', desk.say, row)
            self.not_usable('row', desk.say, row=row)
        self.same(desk.say(row='story'), '-')

    def test_a_new_live_shelf(self):
        desk = Desk(PAIRS, ONE)
        desk.say('lose 0'), desk.say('mark m')
        self.same(desk.say('live\nbook 3 3\nsum 1 1 1\nsigns 0 1 2'), 'ok')
        self.same(desk.counts(), (3, 3))
        self.like(desk, Live(EVEN, (0, 1, 2)))
        self.raises('NothingToUndo', {'steps': 0}, desk.say, 'undo')
        self.same([desk.say('mark m'), desk.say('lose 2'), desk.say('table')], [
            '0 0', '1 1', '0 0 there / 1 1 there / 2 - back'])
        self.same([desk.say('live\nbook 2 1\nsigns 1'), desk.say('signs'), desk.say('write 0')], ['ok', '1', '0 0'])
        self.same(desk.say('live\nbook 2 100\nsigns' + ' 1' * 100), 'ok')
        self.same(desk.say('signs'), ' '.join('1' * 100))

    def test_rows_that_are_nearly_such_a_story(self):
        desk = Desk(PAIRS, ONE)
        for row in (
                'live\nbook 3 3\nsum 1 1 1\nsigns 0 1 2\nlose 0', 'live\nbook 3 3\nsum 1 1 1\nsigns 0 1 2\n',
                'live\nbook 3 3\nsum 1 1 1\nsigns 0 1 1', 'live\nbook 3 3\nsum 1 1 1', 'live\nbook 4 3\nsigns 0 1 2',
                'live\nbook 3 3\nsum 0 0 0\nsigns 0 1 2', 'book 3 3\nsigns 0 1 2', ' live\nbook 2 1\nsigns 0',
                'live\n\nbook 2 1\nsigns 0', 'live \nbook 2 1\nsigns 0', 'live\nbook 2 1\nsigns 0 ',
                'live\nbook 2 1\nsigns 0\nsigns 0', 'live\nbook 2 1', 'live\n', 'live\nbook 2 1\nsigns 0\n\n'):
            self.no_row(desk, row)
        self.same([desk.say('signs'), desk.counts()], ['1 1 0 0', (16, 16)])

    def test_counts(self):
        desk = Desk(PAIRS, ONE)
        self.same(desk.counts(), (0, 0))
        count = 0
        for row, error in (
                ('lose 0', None), ('lose 0', InvalidEvent), ('signs', None), ('bars lose 0', None), ('undo', None),
                ('undo', NothingToUndo), ('nonsense', InvalidRow), (None, NotUsable), (0, NotUsable),
                ('sum 9', NotUsable), ('since m', NotUsable), ('live\nbook 2 1\nsigns 0', None), ('story', None)):
            if error is None:
                desk.say(row)
            else:
                with self.assertRaises(error):
                    desk.say(row)
            count += 1
            self.same(desk.counts(), (count, count))

    def test_led_like_a_live_shelf(self):
        chance = Random(86)
        for book in small_books(most_words=130, each=2):
            word = chance.choice(words_of(book))
            desk, live, model = Desk(book, word), Live(book, word), Model(book, word)
            for _ in range(15):
                event = some_event(chance, model)
                if event[0] == 'widen' and book[0] ** model.book[1] > 130:
                    continue
                line, reason = event_line(book, event), model.reason(event)
                self.same(desk.say('bars ' + line), reason or '-')
                if reason is not None:
                    self.raises('InvalidEvent', {'event': event, 'reason': reason}, desk.say, line)
                else:
                    model.apply(event)
                    self.same(desk.say(line), '{} {}'.format(*live.happen(event)))
                if model.events and chance.randrange(5) == 0:
                    self.same(desk.say('undo'), event_line(book, live.undo()))
                    model.undo()
                self.like(desk, live)

    def test_any_row_of_words(self):
        # Told by their form alone: which rows there are for a book with the prime 2.
        event = r'(?:(?:lose|mend) (?:0|[1-9][0-9]{0,59})|going|mark [a-z]{1,8}|(?:write|widen)(?: [01]){1,100})'
        forms = re.compile(
            rf'{event}|undo|bars {event}|signs|lost|back|marks|mended|sum (?:0|[1-9][0-9]*)|story|since [a-z]{{1,8}}|table')
        words = [
            'lose', 'mend', 'going', 'write', 'widen', 'mark', 'undo', 'bars', 'signs', 'lost', 'back', 'marks',
            'mended', 'sum', 'story', 'since', 'table', '0', '1', '2', '3', '01', 'm', 'M', '', '-', '12', 'live', 'm\n']
        chance = Random(88)
        desk, seen = Desk(PAIRS, ONE), {True: 0, False: 0}
        for count in range(1, 6001):
            row = ' '.join(chance.choice(words) for _ in range(chance.choice((1, 2, 2, 2, 3, 5))))
            able = forms.fullmatch(row) is not None
            try:
                answer = desk.say(row)
            except InvalidRow as error:
                self.same(error.row, row)
                self.assertFalse(able, row)
            except (InvalidEvent, NothingToUndo, NotUsable):
                self.assertTrue(able, row)
            else:
                self.assertTrue(able, row)
                self.assertIs(type(answer), str)
                self.assertNotEqual(answer, '')
            seen[able] += 1
            self.same(desk.counts(), (count, count))
        self.assertGreater(min(seen.values()), 500)

    def test_stories_written_read_replayed_and_led_tell_the_same(self):
        chance = Random(87)
        for book in small_books(most_words=130, each=2):
            word = chance.choice(words_of(book))
            live = Live(book, word)
            led(chance, live, Model(book, word), 12)
            lines = story_lines(live.story())
            many = 3 + len(book[2])
            desk = Desk(FREE, (0, 1))
            self.same(desk.say('\n'.join(lines[:many])), 'ok')
            for line in lines[many:]:
                desk.say(line)
            self.like(desk, live)
            self.like(desk, replayed(live.story()))
            self.same(desk.say('story'), ' / '.join(lines[many:]) or '-')

    def test_errors_of_making(self):
        for book in NOT_BOOKS + [Book.of(EVEN)]:
            self.not_usable('book', Desk, book, (0, 0))
            self.not_usable('book', Desk, book, None)
        for signs in ODD + [0, (), (1, 0, 0), [1, 1, 1], (True, 1, 1), (1, 1, 1, 0), (1, 1, None)]:
            self.not_usable('signs', Desk, EVEN, signs)

    def test_two_desks_share_nothing(self):
        first, second = Desk(PAIRS, ONE), Desk(PAIRS, ONE)
        first.say('lose 0')
        self.same([second.say('lost'), second.counts(), first.counts()], ['-', (1, 1), (1, 1)])

    def test_defined_in_the_class_itself(self):
        for name in ('__init__', 'say', 'counts'):
            self.assertIn(name, vars(Desk))

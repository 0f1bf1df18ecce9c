"""Each function with its parameters in turn, by name, wrong, and two wrong ones at once."""

import inspect
import unittest
from copy import deepcopy
from itertools import combinations

from helpers import BIG, EVEN, FREE, LATE, NOT_BOOKS, ODD, PAIRS, Raising
from mendfew import (
    apartchecker, apartness, apartpapers, bookchanges, bookchecker, bookparts, bookreadings, booktexts,
    counting, crossed, fewchecker, fewness, fewpapers, goings, kinds, likeness, liveevents, livelogs,
    livereadings, livetexts, losschecker, losses, losspapers, lotchecker, lotpapers, mending, nested,
    noughtchecker, powers, price, readings)
from mendfew.errors import InvalidPaper

STORY = (('live', EVEN, (1, 1, 1)), ('lose', 0), ('mark', 'm'))

#: for each function of the interface, arguments by name, in their order, that it accepts
CALLS = [
    (kinds.is_integer, {'thing': 1}),
    (kinds.is_number, {'thing': 1}),
    (kinds.is_prime, {'thing': 2}),
    (bookchecker.is_book, {'thing': EVEN}),
    (bookchecker.lets_book, {'thing': EVEN}),
    (bookchecker.is_lot, {'book': EVEN, 'thing': (0, 2)}),
    (bookchecker.is_word, {'book': EVEN, 'thing': (1, 1, 1)}),
    (bookparts.told_signs, {'book': EVEN}),
    (bookparts.told_on, {'book': EVEN, 'lot': (0, 1)}),
    (bookparts.keeps, {'book': EVEN, 'numbers': (2, 2, 2)}),
    (bookparts.base_words, {'book': EVEN}),
    (bookparts.base_sums, {'book': EVEN}),
    (bookparts.all_words, {'book': EVEN}),
    (bookchanges.renumbered, {'book': EVEN, 'places': (2, 0, 1)}),
    (bookchanges.with_sum, {'book': EVEN, 'numbers': (0, 1, 2)}),
    (bookchanges.with_place, {'book': EVEN, 'numbers': (0, 1, 2)}),
    (bookchanges.side_by_side, {'one': PAIRS, 'other': FREE}),
    (bookchanges.without_place, {'book': EVEN, 'place': 2}),
    (bookchanges.with_nought, {'book': EVEN, 'place': 2}),
    (booktexts.book_text, {'book': EVEN}),
    (booktexts.lot_text, {'book': EVEN, 'lot': (0, 1)}),
    (booktexts.signs_text, {'book': EVEN, 'signs': (0, 1, 2)}),
    (bookreadings.book_read, {'text': 'book 3 3\nsum 1 1 1'}),
    (bookreadings.lot_read, {'book': EVEN, 'text': '0 2'}),
    (bookreadings.signs_read, {'book': EVEN, 'text': '0 1 2'}),
    (fewness.fewest_of, {'book': EVEN, 'place': 1}),
    (fewness.few_of, {'book': EVEN}),
    (fewness.sums_of, {'book': EVEN, 'place': 1}),
    (fewness.groups_of, {'book': EVEN, 'place': 1}),
    (fewness.sign_by, {'book': EVEN, 'numbers': (2, 2, 2), 'place': 1, 'others': (0, 1)}),
    (apartness.apart_of, {'book': EVEN}),
    (apartness.near_words, {'book': EVEN}),
    (apartness.near_lots, {'book': EVEN}),
    (apartness.weights_of, {'book': EVEN}),
    (apartness.signs_within, {'book': EVEN, 'lot': (0, 1)}),
    (apartness.differ_at, {'book': EVEN, 'signs': (0, 1, 2), 'late': (1, 1, 1)}),
    (likeness.same_words, {'one': PAIRS, 'other': FREE}),
    (likeness.reduced, {'book': EVEN}),
    (likeness.renumbering_to, {'one': PAIRS, 'other': LATE}),
    (likeness.renumberings_of, {'book': EVEN}),
    (likeness.like_places, {'book': EVEN}),
    (likeness.plain_book, {'book': EVEN}),
    (fewpapers.few_paper, {'book': EVEN, 'place': 1}),
    (fewchecker.lets_few, {'book': EVEN, 'place': 0, 'thing': ('few', (1, 1, 1), ((1, 0, 2), (1, 2, 0)))}),
    (apartpapers.apart_paper, {'book': EVEN}),
    (apartchecker.lets_apart, {
        'book': EVEN, 'thing': ('pair', (0, 0, 0), (1, 2, 0), ((0, 1), (0, 2), (1, 2)))}),
    (losses.told_back, {'book': EVEN, 'lost': (0, 1)}),
    (losses.is_mended, {'book': EVEN, 'lost': (1,)}),
    (losspapers.loss_paper, {'book': EVEN, 'lost': (0, 1)}),
    (losschecker.lets_loss, {'book': EVEN, 'lost': (1,), 'thing': (('told', (2, 2, 2)),)}),
    (mending.filled, {'book': EVEN, 'signs': (1, None, 1)}),
    (readings.reads_for, {'book': EVEN, 'place': 1, 'lost': (1,), 'costs': (0, 1, 10 ** 20)}),
    (readings.least_cost, {'book': EVEN, 'place': 1, 'lost': (1,), 'costs': (0, 1, 10 ** 20)}),
    (readings.reads_for_all, {'book': EVEN, 'lost': (1,), 'costs': (0, 1, 10 ** 20)}),
    (readings.cost_for_all, {'book': EVEN, 'lost': (1,), 'costs': (0, 1, 10 ** 20)}),
    (goings.goings, {'book': EVEN, 'sums': ((2, 2, 2),), 'lost': (1,)}),
    (goings.left_by, {'book': EVEN, 'sums': ((2, 2, 2),), 'lost': (0, 1)}),
    (goings.is_mended_by, {'book': EVEN, 'sums': ((2, 2, 2),), 'lost': (1,)}),
    (goings.stuck_lots, {'book': EVEN, 'sums': ((2, 2, 2),)}),
    (price.price_of, {'book': EVEN}),
    (price.few_lot, {'book': EVEN}),
    (price.is_best, {'book': EVEN}),
    (lotpapers.lot_paper, {'book': EVEN}),
    (lotchecker.lets_lot, {'book': EVEN, 'thing': ('price', (2,), (1, 2, 0))}),
    (powers.primitive_of, {'prime': 13}),
    (powers.class_numbers, {'prime': 13, 'wide': 4, 'many': 2}),
    (powers.powers_used, {'few': 2, 'told': 4}),
    (powers.powers_places, {'prime': 7, 'few': 2, 'many': 2}),
    (powers.powers_groups, {'few': 2, 'many': 2}),
    (powers.powers_book, {'prime': 7, 'few': 2, 'many': 2, 'told': 3}),
    (nested.nested_used, {'few': 1, 'wide': 4, 'inner': 3, 'many': 2}),
    (nested.nested_groups, {'prime': 13, 'few': 1, 'wide': 4, 'many': 2}),
    (nested.nested_book, {'prime': 13, 'few': 1, 'wide': 4, 'inner': 3, 'many': 1, 'told': 2}),
    (crossed.crossed_used, {'one': 2, 'other': 3, 'many': 1}),
    (crossed.crossed_groups, {'one': 2, 'other': 3, 'many': 1}),
    (crossed.crossed_book, {'prime': 7, 'one': 2, 'other': 3, 'many': 1, 'told': 2}),
    (counting.losses_by_size, {'book': EVEN}),
    (counting.goings_by_size, {'book': EVEN, 'sums': ((2, 2, 2),)}),
    (liveevents.is_event, {'book': EVEN, 'thing': ('lose', 3)}),
    (livelogs.is_story, {'thing': STORY}),
    (livelogs.replayed, {'story': STORY}),
    (livetexts.event_line, {'book': EVEN, 'event': ('lose', 3)}),
    (livetexts.story_lines, {'story': STORY}),
    (livereadings.read_event, {'book': EVEN, 'text': 'lose 3'}),
    (livereadings.read_story, {'lines': ['live', 'book 2 2', 'signs 0 1', 'lose 0']}),
    (noughtchecker.lets_noughts, {'book': (7, 2, ((1, 1),)), 'thing': ('noughts', (1, 2), (0, 1))}),
]

#: those that return for each value whether it is one; the other ones raise InvalidPaper
JUDGES = [function for function, good in CALLS if 'thing' in good and function.__name__.startswith('is_')]

BOOK_NAMES = ('book', 'one', 'other')

#: what more than ODD is wrong for a parameter of this name, for the books above
WRONG = {
    'lot': [0, 1, (1, 0), (0, 0), (0, 1, 2, 3), (0, 3), [0, 1], (0, True), (False, 1)],
    'numbers': [0, (), (1, 1), (1, 1, 1, 1), (0, 1, 3), [1, 1, 1], (0, True, 2), (0, False, 2)],
    'places': [0, (), (0, 1), (0, 1, 2, 3), (0, 1, 1), (1, 2, 3), [0, 1, 2], (0, True, 2)],
    'place': [3, 4, (0,), '0'],
    'signs': [0, (), (1, 1), (1, 1, 1, 1), (0, 1, 3), (1, 1, 0), [0, 1, 2], (0, True, 2)],
    'late': [0, (), (1, 1), (1, 1, 1, 1), (0, 1, 3), (1, 1, 0), [0, 1, 2], (0, True, 2)],
    'lost': [0, 1, (1, 0), (0, 0), (0, 1, 2, 3), (0, 3), [0, 1], (0, True), (False, 1)],
    'sums': [0, (0,), (1, 1, 1), [(1, 1, 1)], ([1, 1, 1],), ((1, 1),), ((0, 0, 0),), ((1, 1, True),)],
    'costs': [0, (), (1, 1), (1, 1, 1, 1), [1, 1, 1], (1, None, 1), (1, 1, -1), (1, True, 1), (1, 1, False)],
    'event': [0, 'going', ['going'], ('going', 0), ('lose', True), ('write', [0]), ('mark', 'A'), ('widen', (3,))],
    'story': [0, STORY[0], [STORY[0]], (list(STORY[0]),), STORY[1:], (*STORY, None), (*STORY, ['lose', 1])],
    'lines': [0, 'live', tuple('live'), ['live\n'], ['live', 0], ['live', ['book 2 2']]],
    'others': [0, (), (1,), (1, 1, 1), (0, 3), [0, 1], (0, True), (False, 1)],
}


#: modules of which all parameters are integers; more than ODD is wrong, for those above
COUNTED = {
    powers: {'prime': [1, 4, 9, -7, 1000003, BIG], 'wide': [5, 7, 24, BIG], 'few': [], 'many': [], 'told': []},
    nested: {'prime': [1, 4, 9, -7, 1000003, BIG], 'few': [], 'wide': [1, 3, 7], 'inner': [5, 6, BIG],
             'many': [], 'told': []},
    crossed: {'prime': [1, 4, 9, -7, 1000003, BIG], 'one': [1], 'other': [1, 2, 4, 6], 'many': [], 'told': []},
}


def wrong_for(function, name):
    for module, more in COUNTED.items():
        if function.__module__ == module.__name__ and name in more:
            return [value for value in ODD if value != BIG] + [0, -2, '2', (2,), [2]] + more[name]
    if name in BOOK_NAMES:
        return NOT_BOOKS
    if name == 'text':
        return [value for value in ODD if not isinstance(value, str)] + [0, 1, (), ('0',)]
    # None, for the costs, is 1 for each; a list of strings is one of lines.
    able = {'costs': [None], 'lines': [[], ['a']]}.get(name, [])
    return [value for value in ODD if value not in able] + WRONG[name]


def judged(name):
    return name == 'thing'


def result(function, *args, **more):
    told = function(*args, **more)
    return list(told) if inspect.isgenerator(told) else told


class ParametersTest(Raising, unittest.TestCase):
    def test_names_and_order(self):
        for function, good in CALLS:
            self.assertEqual(list(inspect.signature(function).parameters), list(good))

    def test_by_position_and_by_name(self):
        for function, good in CALLS:
            told = result(function, *good.values())
            self.same(result(function, **good), told)
            self.same(result(function, **dict(reversed(list(good.items())))), told)

    def test_each_wrong_one_is_named(self):
        for function, good in CALLS:
            for name in good:
                if judged(name):
                    continue
                for value in wrong_for(function, name):
                    before = deepcopy(value)
                    self.not_usable(name, result, function, **{**good, name: value})
                    self.assertEqual(value, before)

    def test_first_of_two_wrong_ones_is_named(self):
        for function, good in CALLS:
            for first, second in combinations(good, 2):
                if judged(first):
                    continue
                late = ODD if judged(second) else wrong_for(function, second)
                for value, more in zip(wrong_for(function, first), late):
                    self.not_usable(first, result, function, **{**good, first: value, second: more})

    def test_things_are_judged(self):
        for function, good in CALLS:
            if 'thing' in good:
                for value in NOT_BOOKS:
                    before = deepcopy(value)
                    if function in JUDGES:
                        self.assertIs(type(function(**{**good, 'thing': value})), bool)
                    else:
                        with self.assertRaises(InvalidPaper):
                            function(**{**good, 'thing': value})
                    self.assertEqual(value, before)

    def test_handed_in_stays(self):
        for function, good in CALLS:
            before = deepcopy(good)
            result(function, **good)
            self.same(list(good.values()), list(before.values()))

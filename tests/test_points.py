"""Each point of the document once more, by its number, over the whole program."""

import inspect
import unittest
from itertools import combinations

from helpers import (
    ALONE, BIG, EVEN, FOUR, FREE, LATE, ODD, PAIRS, Raising, all_lots, small_books, total, words_by_all)
from mendfew import errors
from mendfew.apartchecker import lets_apart
from mendfew.apartness import apart_of, differ_at, near_lots, near_words, signs_within, weights_of
from mendfew.apartpapers import apart_paper
from mendfew.bookchanges import renumbered, side_by_side, with_nought, with_place, with_sum, without_place
from mendfew.bookchecker import is_book, is_lot, is_word, lets_book
from mendfew.bookclasses import Book, Repeated
from mendfew.bookparts import all_words, base_sums, base_words, keeps, told_on, told_signs
from mendfew.bookreadings import book_read, lot_read, signs_read
from mendfew.booktexts import book_text, lot_text, signs_text
from mendfew.counting import goings_by_size, losses_by_size
from mendfew.crossed import crossed_book, crossed_groups, crossed_used
from mendfew.desks import Desk
from mendfew.errors import InvalidEvent, InvalidPaper, InvalidText, MendError, NotUsable
from mendfew.fewchecker import lets_few
from mendfew.fewness import few_of, fewest_of, groups_of, sign_by, sums_of
from mendfew.fewpapers import few_paper
from mendfew.goings import goings, is_mended_by, left_by, stuck_lots
from mendfew.kinds import is_integer, is_number, is_prime
from mendfew.likeness import (
    like_places, plain_book, reduced, renumbering_to, renumberings_of, same_words)
from mendfew.liveevents import is_event
from mendfew.livelogs import is_story, replayed
from mendfew.livereadings import read_event, read_story
from mendfew.lives import Careful, Live, rehearsed
from mendfew.livetexts import event_line, story_lines
from mendfew.losschecker import lets_loss
from mendfew.losses import is_mended, told_back
from mendfew.losspapers import loss_paper
from mendfew.lotchecker import lets_lot
from mendfew.lotpapers import lot_paper
from mendfew.mendclasses import Burst, Loss
from mendfew.mending import filled
from mendfew.nested import nested_book, nested_groups, nested_used
from mendfew.noughtchecker import lets_noughts
from mendfew.powerclasses import Powered
from mendfew.powers import (
    class_numbers, powers_book, powers_groups, powers_places, powers_used, primitive_of)
from mendfew.price import few_lot, is_best, price_of
from mendfew.readings import cost_for_all, least_cost, reads_for, reads_for_all
from test_interface import NAMES

RING = (5, 4, ((1, 1, 1, 0), (0, 1, 1, 1)))
ONE = (1, 1, 0, 0)
BOOKS = [book for book in small_books(most_words=130, each=2)]


class Pointed(Raising, unittest.TestCase):
    def bad_paper(self, word, at, call, *args):
        self.raises('InvalidPaper', {'word': word, 'at': at}, call, *args)


class FirstPointsTest(Pointed):
    def test_01_one_book_in_all_ways(self):
        book = powers_book(7, 2, 2, 3)
        self.same([few_of(book), apart_of(book), price_of(book), is_best(book)], [2, 3, 3, True])
        self.same(lets_few(book, 4, few_paper(book, 4)), 2)
        self.same(lets_apart(book, apart_paper(book)), 3)
        self.same(lets_lot(book, lot_paper(book)), 3)
        self.same(lets_loss(book, (0, 4), loss_paper(book, (0, 4))), (0, 4))
        word = base_words(book)[1]
        self.same(filled(book, (None, *word[1:])), word)
        live = Live(book, word)
        # One sum of the book has both 0 and 4, another one 4 alone.
        self.same([live.lose(0), live.lose(4), live.going(), live.going(), live.signs_now], [
            (1, 1), (2, 2), (1, 1), (0, 0), word])
        self.same(is_mended_by(book, book[2], (0, 4)), True)
        self.same(least_cost(book, 0, (0,)), 2)

    def test_02_integers_are_no_bools(self):
        self.same([is_integer(True), is_number(False), is_integer(-1), is_number(-1)], [False, False, True, False])
        self.same([is_word(EVEN, (True, 1, 1)), is_lot(EVEN, (False,)), is_book((3, True, ()))], [False] * 3)
        self.same([is_event(EVEN, ('lose', True)), is_story((('live', FREE, (False, 1)),))], [False] * 2)

    def test_02_nothing_is_counted_from_the_end(self):
        self.not_usable('k', Book(2, 2, (1, 1)).__getitem__, -1)
        self.not_usable('place', Live(EVEN, (1, 1, 1)).__getitem__, -1)
        self.not_usable('place', fewest_of, EVEN, -1)

    def test_02_a_generator_raises_when_the_first_one_is_asked_for(self):
        steps = all_words(None)
        self.assertTrue(inspect.isgenerator(steps))
        self.not_usable('book', next, steps)

    def test_02_results_are_of_the_kind_stated(self):
        for told in (base_words(EVEN), sums_of(EVEN, 0), near_lots(EVEN), weights_of(EVEN), told_back(EVEN, (0,)),
                     loss_paper(EVEN, (0,)), stuck_lots(EVEN, ()), powers_groups(2, 2), losses_by_size(EVEN),
                     few_paper(EVEN, 0), nested_groups(13, 1, 4, 1), Live(EVEN, (1, 1, 1)).story()):
            self.assertIs(type(told), tuple)
            self.same([type(part) for part in told if isinstance(part, list)], [])
        for told in (story_lines((('live', FREE, (0, 1)),)), Live(FREE, (0, 1)).table()):
            self.assertIs(type(told), list)

    def test_03_words_keep_the_sums(self):
        for book in BOOKS:
            prime, size, sums = book
            words = list(all_words(book))
            self.same(words, words_by_all(book))
            self.assertTrue(all(is_word(book, word) for word in words))
            self.assertTrue(all(total(prime, row, word) == 0 for row in sums for word in words))

    def test_04_told_on_a_lot(self):
        for book in BOOKS:
            words = words_by_all(book)
            for lot in all_lots(book[1]):
                self.assertEqual(
                    book[0] ** told_on(book, lot), len({tuple(word[at] for at in lot) for word in words}))

    def test_05_told_by_few(self):
        self.same([fewest_of(EVEN, 0), few_of(EVEN), few_of(FREE), few_of(ALONE)], [2, 2, None, 1])

    def test_06_apart(self):
        for book in BOOKS:
            words = words_by_all(book)
            self.assertEqual(apart_of(book), min(
                (sum(a != b for a, b in zip(one, other)) for one, other in combinations(words, 2)), default=None))

    def test_07_goings(self):
        self.same([goings(RING, RING[2], (0, 1)), goings(PAIRS, PAIRS[2], (0, 2))], [((1,), (0,)), ((0, 2),)])

    def test_08_powers_and_classes(self):
        numbers, book = powers_places(7, 2, 2), powers_book(7, 2, 2, 3)
        for used in powers_used(2, 3):
            self.assertTrue(is_word(book, tuple(number ** used % 7 for number in numbers)))
        self.same([[numbers[at] ** 3 % 7 for at in lot] for lot in powers_groups(2, 2)], [[1] * 3, [6] * 3])

    def test_09_told_back_or_alike(self):
        for book in BOOKS:
            for lost in all_lots(book[1]):
                self.assertEqual(
                    [entry[0] == 'told' for entry in loss_paper(book, lost)],
                    [place in told_back(book, lost) for place in lost])

    def test_09_the_price(self):
        for book in BOOKS:
            if price_of(book) is not None:
                self.assertLessEqual(apart_of(book), price_of(book))
                self.assertLess(told_on(book, few_lot(book)), told_signs(book))
        for book in (powers_book(13, 2, 3, 5), powers_book(5, 1, 2, 2), powers_book(11, 4, 2, 6)):
            self.assertTrue(is_best(book))

    def test_09_apart_of_nested_and_crossed(self):
        self.assertGreaterEqual(apart_of(nested_book(13, 1, 4, 3, 2, 3)), 8 - 4)
        self.assertGreaterEqual(apart_of(crossed_book(13, 2, 3, 2, 3)), 12 - 6)

    def test_09_goings_in_any_order(self):
        for book in BOOKS:
            for lost in all_lots(book[1]):
                self.assertEqual(left_by(book, book[2], lost), left_by(book, book[2][::-1], lost))

    def test_09_like_one_that_is_replayed(self):
        live = Live(PAIRS, ONE)
        for event in (('lose', 0), ('lose', 2), ('mark', 'm'), ('going',), ('widen', (1, 0, 1, 0)), ('lose', 4)):
            live += event
            self.assertEqual(replayed(live.story()).told(), live.told())

    def test_10_errors_keep_their_fields(self):
        for name in NAMES['errors'][5:]:
            kind = getattr(errors, name)
            fields = list(inspect.signature(kind).parameters)
            for value in ODD:
                error = kind(**{field: value for field in fields})
                for field in fields:
                    self.assertIs(getattr(error, field), value)
                self.same(vars(error), {field: value for field in fields})

    def test_10_beyond_the_limits_of_books(self):
        book = (999983, 30, tuple(tuple(1 if at in (k, k + 1) else 0 for at in range(30)) for k in range(29)))
        self.same([told_signs(book), lets_book(book), len(base_words(book))], [1, 29, 1])

    def test_11_the_first_parameter_is_named(self):
        self.not_usable('one', side_by_side, None, None)
        self.not_usable('other', side_by_side, EVEN, None)
        self.not_usable('book', with_sum, None, None)
        self.not_usable('numbers', with_sum, EVEN, None)

    def test_12_kinds(self):
        self.same([is_prime(999983), is_prime(1), is_prime(1000003), is_prime(True), is_prime(2)], [
            True, False, False, False, True])

    def test_13_books(self):
        self.same(lets_book(PAIRS), 2)
        for thing, word, at in (
                (None, 'shape', -1), ((4, 2, ()), 'prime', -1), ((3, 0, ()), 'size', -1), ((3, 2, []), 'sums', -1),
                ((3, 2, ((1, 1), (1, 3))), 'sum', 1), ((3, 2, ((0, 0), None)), 'nought', 0)):
            self.bad_paper(word, at, lets_book, thing)
            self.assertIs(is_book(thing), False)

    def test_14_parts(self):
        self.same([told_signs(EVEN), told_on(EVEN, ()), keeps(EVEN, (2, 2, 2)), keeps(EVEN, (1, 2, 0))], [
            2, 0, True, False])
        self.not_usable('numbers', keeps, EVEN, (0, 0, 0))

    def test_15_base_words_and_sums(self):
        self.same([base_words(EVEN), base_sums(EVEN), base_sums(FREE)], [((1, 0, 2), (0, 1, 2)), ((1, 1, 1),), ()])

    def test_16_changes(self):
        self.same([renumbered((2, 3, ((1, 1, 0),)), (1, 2, 0)), with_sum(FREE, (1, 1)), with_place(FREE, (1, 1))], [
            (2, 3, ((1, 0, 1),)), (2, 2, ((1, 1),)), (2, 3, ((1, 1, 1),))])
        self.not_usable('book', with_place, (2, 100, ()), None)

    def test_17_a_place_less(self):
        self.same([without_place(EVEN, 1), with_nought(EVEN, 1)], [(3, 2, ()), (3, 2, ((1, 1),))])
        self.not_usable('place', without_place, ALONE, 0)

    def test_18_and_19_texts(self):
        for book in BOOKS:
            self.same(book_read(book_text(book)), book)
            for lot in all_lots(book[1]):
                self.same(lot_read(book, lot_text(book, lot)), lot)
            for word in words_by_all(book)[:5]:
                self.same(signs_read(book, signs_text(book, word)), word)
        self.raises('InvalidText', {'line': 1, 'field': 2}, book_read, 'book 3 2\nsum 1 3')

    def test_20_books_as_objects(self):
        shelf = Book(2, 4, (1, 1, 0, 0), (0, 0, 1, 1))
        self.same([shelf.told_now, len(shelf), shelf(ONE), ONE in shelf, str(shelf - 0)], [2, 4, True, True, 'book 2 3\nsum 0 1 1'])
        self.bad_paper('nought', 0, Book, 2, 2, (0, 0))

    def test_21_repeated(self):
        self.same([list(Repeated(3, 3)), Repeated(3, 3).word_of(2)], [[(1, 2, 0), (1, 0, 2)], (2, 2, 2)])
        self.not_usable('size', Repeated, 3, 101)

    def test_22_and_23_few_others(self):
        self.same([sums_of(FOUR, 0), groups_of(PAIRS, 3), sums_of(FREE, 0)], [
            ((1, 0, 2, 2), (1, 1, 1, 0), (1, 2, 0, 1)), ((2, 3),), ()])
        self.not_usable('place', sums_of, FOUR, 4)

    def test_24_sign_by(self):
        self.same(sign_by(FOUR, (0, 1, 2, 1), 2, (1, 1)), 2)
        self.not_usable('others', sign_by, EVEN, (1, 1, 1), 0, (1,))

    def test_25_near_words(self):
        self.same([weights_of(EVEN), near_lots(PAIRS)], [(1, 0, 6, 2), ((0, 1), (2, 3))])
        self.assertEqual(len(differ_at(FOUR, *near_words(FOUR))), 3)

    def test_26_signs_within(self):
        self.same([signs_within(FOUR, (0, 1, 2)), differ_at(EVEN, (0, 1, 2), (0, 2, 1))], [1, (1, 2)])

    def test_27_weights(self):
        for book in BOOKS:
            weights = weights_of(book)
            self.assertEqual(sum(weights), book[0] ** told_signs(book))
            if apart_of(book):
                self.assertEqual(weights[apart_of(book)], (book[0] - 1) * len(near_lots(book)))

    def test_28_same_words(self):
        self.same([same_words(EVEN, (3, 3, ((2, 2, 2),))), reduced((3, 3, ((2, 2, 2),))) == EVEN], [True, True])

    def test_29_and_30_alike(self):
        self.assertTrue(same_words(renumbered(PAIRS, renumbering_to(PAIRS, LATE)), LATE))
        self.same([renumberings_of(PAIRS), like_places(PAIRS), plain_book(PAIRS) == plain_book(LATE)], [
            8, ((0, 1, 2, 3),), True])
        self.same(renumbering_to(PAIRS, FOUR), None)


class PapersTest(Pointed):
    def test_31_papers_of_few(self):
        for book in BOOKS:
            for place in range(book[1]):
                self.same(lets_few(book, place, few_paper(book, place)), fewest_of(book, place))
        self.bad_paper('open', (2,), lets_few, EVEN, 0, ('few', (1, 1, 1), ((1, 0, 2),)))

    def test_32_papers_of_apart(self):
        for book in BOOKS:
            self.same(lets_apart(book, apart_paper(book)), apart_of(book))
        self.bad_paper('open', (0,), lets_apart, PAIRS, ('pair', (0, 0, 0, 0), ONE, ((0, 2),)))

    def test_33_more_than_needed(self):
        paper = apart_paper(PAIRS)
        self.same(lets_apart(PAIRS, (*paper[:3], paper[3] + paper[3])), 2)

    def test_34_and_35_losses(self):
        self.same([told_back(PAIRS, (0, 1, 2)), is_mended(PAIRS, (0, 2)), is_mended(EVEN, ())], [(2,), True, True])
        self.not_usable('lost', told_back, PAIRS, [0])

    def test_36_and_37_papers_of_losses(self):
        for book in BOOKS:
            for lost in all_lots(book[1]):
                self.same(lets_loss(book, lost, loss_paper(book, lost)), told_back(book, lost))
        self.bad_paper('signs', (0, 1), lets_loss, PAIRS, (0,), (('alike', ONE, (1, 0, 0, 0)),))

    def test_38_told_on_what_is_left(self):
        for book in BOOKS:
            for lost in all_lots(book[1]):
                left = tuple(place for place in range(book[1]) if place not in lost)
                self.assertIs(is_mended(book, lost), told_on(book, left) == told_signs(book))

    def test_39_filled(self):
        self.same(filled(PAIRS, (None, None, None, 1)), (None, None, 1, 1))
        self.not_usable('signs', filled, PAIRS, (1, 0, None, 0))

    def test_40_readings(self):
        self.same([reads_for(RING, 0, (0,), (1, 1, 1, 9)), reads_for(EVEN, 0, (0, 1))], [(1, 2), None])
        self.same([reads_for_all(RING, (0, 1)), cost_for_all(RING, (0, 1))], [(2, 3), 2])
        self.not_usable('costs', least_cost, EVEN, 0, (), (1, 1))

    def test_41_least_cost_is_the_fewest(self):
        for book in BOOKS:
            for place in range(book[1]):
                self.same(least_cost(book, place, (place,)), fewest_of(book, place))

    def test_42_goings(self):
        self.same([left_by(RING, RING[2], (1, 2, 3)), is_mended_by(RING, RING[2], (0, 1))], [(1, 2, 3), True])
        self.not_usable('sums', goings, EVEN, ((1, 1, 0),), ())

    def test_43_stuck_lots(self):
        self.same(stuck_lots(RING, RING[2]), ((0, 1, 3), (0, 2, 3), (1, 2)))

    def test_44_and_45_losses_as_objects(self):
        one = Burst(PAIRS, 0, 3)
        self.same([one.back_now, one.gone_now, (one - 0).back_now, one == Loss(PAIRS, (0, 1, 2)), str(one)], [
            (2,), (0, 1), (1, 2), True, '0 1 2'])
        self.not_usable('place', lambda: one + 2)

    def test_46_and_47_the_price(self):
        self.same([price_of(EVEN), price_of(FREE), is_best(FREE), few_lot(FREE)], [2, None, False, None])
        self.not_usable('book', price_of, [3, 3, ()])

    def test_48_papers_of_the_price(self):
        self.same(lets_lot(PAIRS, ('price', (0, 1), (0, 0, 1, 1))), 2)
        self.not_usable('book', lets_lot, FREE, None)
        for thing, word, at in (
                (('price', [0, 1], (0, 0, 1, 1)), 'shape', -1), (('price', (1, 0), (0, 0, 1, 1)), 'lot', -1),
                (('price', (2,), (1, 0, 0, 0)), 'few', -1), (('price', (0, 1), (0, 0, 0, 0)), 'signs', -1),
                (('price', (0, 2), (0, 0, 1, 1)), 'there', 2)):
            self.bad_paper(word, at, lets_lot, PAIRS, thing)

    def test_49_a_paper_for_each_price(self):
        for book in BOOKS:
            if price_of(book) is not None:
                self.same(lets_lot(book, lot_paper(book)), price_of(book))

    def test_50_powers(self):
        self.same([primitive_of(2), primitive_of(41), class_numbers(13, 4, 2)], [1, 6, (1, 8, 12, 5, 2, 3, 11, 10)])
        self.not_usable('wide', class_numbers, 13, 5, 9)
        self.not_usable('many', class_numbers, 13, 4, 4)
        self.not_usable('few', powers_places, 13, 4, 0)

    def test_51_books_by_powers(self):
        self.same(powers_book(5, 1, 2, 2), (5, 4, ((1, 4, 0, 0), (0, 0, 1, 4))))
        self.not_usable('told', powers_book, 5, 1, 2, 3)

    def test_52_nested(self):
        self.same([nested_used(1, 4, 3, 2), nested_groups(13, 1, 4, 1)], [(0, 2, 4, 6), (((0, 2), (1, 3)), ((0, 1, 2, 3),))])
        self.not_usable('wide', nested_used, 1, 3, 9, 0)
        self.not_usable('told', nested_book, 13, 1, 4, 3, 1, 3)

    def test_53_crossed(self):
        self.same([crossed_used(2, 3, 1), crossed_groups(2, 3, 1)[0]], [(0, 4), ((0, 3), (1, 4), (2, 5))])
        self.not_usable('other', crossed_book, 7, 2, 4, 1, 1)

    def test_54_they_tell_told_signs(self):
        for told in (1, 2, 3, 4):
            self.same([told_signs(powers_book(7, 2, 2, told)), apart_of(powers_book(7, 2, 2, told))], [
                told, 6 - powers_used(2, told)[-1]])
        self.same(told_signs(nested_book(13, 1, 4, 3, 2, 3)), 3)
        self.same(told_signs(crossed_book(7, 2, 3, 1, 2)), 2)

    def test_55_powered(self):
        it = Powered(7, 2, 2, 3)
        self.same([it.word_by((1, 1, 0)), it.numbers_of((1, 1, 1, 6, 6, 6)), it.least_now], [
            (2, 3, 5, 4, 0, 6), (0, 0, 1), 3])
        self.not_usable('few', Powered, 2, 1, 1, 1)

    def test_56_and_57_counting(self):
        self.same([losses_by_size(PAIRS), goings_by_size(PAIRS, PAIRS[2])], [(1, 4, 4, 0, 0), (1, 4, 4, 0, 0)])
        self.not_usable('sums', goings_by_size, EVEN, ((1, 1, 0),))

    def test_58_noughts(self):
        self.same(lets_noughts(powers_book(7, 2, 2, 3), Powered(7, 2, 2, 3).noughts_paper()), 3)
        for thing, word, at in (
                (('noughts', (1, 2, 2), ()), 'shape', -1), (('noughts', (1, 2), (0,)), 'many', -1),
                (('noughts', (1, 2, 2), (9,)), 'number', 2), (('noughts', (1, 2, True), (0,)), 'number', 2)):
            self.bad_paper(word, at, lets_noughts, EVEN, thing)
        self.bad_paper('used', 1, lets_noughts, (5, 2, ()), ('noughts', (1, 2), (1, 1)))
        self.bad_paper('word', 0, lets_noughts, (5, 2, ()), ('noughts', (1, 2), (1,)))


class LivePointsTest(Pointed):
    def test_59_parameters(self):
        self.not_usable('book', Live, None, None)
        self.not_usable('signs', Careful, EVEN, None)
        self.not_usable('book', event_line, None, None)

    def test_60_events_by_form(self):
        self.same([is_event(EVEN, ('lose', BIG)), is_event(EVEN, ('write', (3,))), is_event(EVEN, ['going'])], [
            True, False, False])

    def test_61_a_live_shelf(self):
        live = Live(PAIRS, ONE)
        live.lose(0), live.mark('m')
        self.same([live.book_now, live.signs_now, live.lost_now, live.back_now, live.marks_now, Live.MOST], [
            PAIRS, (None, 1, 0, 0), (0,), (0,), ('m',), 40])

    def test_62_reasons(self):
        live = Live(PAIRS, ONE)
        live.lose(0), live.lose(1), live.mark('m')
        self.same([live.barred(event) for event in (
            ('lose', -1), ('lose', 4), ('lose', 0), ('mend', 2), ('mend', 0), ('going',), ('write', (1,)),
            ('widen', (1,)), ('widen', (1, 1, 1, 1)), ('mark', 'm'), ('lose', 2))], [
                'shape', 'place', 'gone', 'there', 'untold', 'none', 'word', 'many', 'lost', 'twice', None])

    def test_63_pairs(self):
        live = Live(PAIRS, ONE)
        self.same([live.happen(('lose', 0)), live.lose(1), live.write(ONE), live.lose(3), live.mend(3)], [
            (1, 1), (2, 0), (0, 0), (1, 1), (0, 0)])
        live += ('mark', 'm')
        self.same([len(live), live.counts()], [6, (6, 6)])

    def test_64_trials(self):
        live = Live(PAIRS, ONE)
        with live.trial() as held:
            held.lose(0)
        self.same([live.lost_now, live.tried(('lose', 1))[2], rehearsed(live, ('lose', 1))[2], live.counts()], [
            (), (1,), (1,), (2, 2)])
        self.raises('Broken', {'done': 1}, live.do_all, ('lose', 0), ('lose', 0), keep=True)
        self.same([live.undo(), live.mended()], [('lose', 0), ONE])
        self.raises('NothingToUndo', {'steps': 0}, live.undo)

    def test_65_reading(self):
        live = Live(PAIRS, ONE)
        live.lose(0), live.mark('m'), live.lose(1)
        self.same([live.since('m'), live.table()[0], live[2], live(2) is not None, live(0), 0 in live, list(live)], [
            (('lose', 1),), '0 - lost', 0, True, None, False, [('lose', 0), ('mark', 'm'), ('lose', 1)]])
        self.not_usable('mark', live.since, 'n')

    def test_66_careful(self):
        live = Careful(PAIRS, ONE)
        live.lose(0)
        self.raises('InvalidEvent', {'event': ('lose', 1), 'reason': 'risk'}, live.lose, 1)

    def test_67_mended(self):
        for book in BOOKS:
            live = Live(book, words_by_all(book)[-1])
            for place in range(book[1]):
                live.lose(place)
                self.assertIs(None in live.mended(), live.back_now != live.lost_now)

    def test_68_stories(self):
        story = (('live', PAIRS, ONE), ('lose', 0), ('widen', (1, 0, 1)), ('mark', 'm'))
        self.same([is_story(story), read_story(story_lines(story)) == story], [True, True])
        self.raises('InvalidEvent', {'event': ('widen', (1, 0, 1)), 'reason': 'many'}, replayed, story)
        self.raises('InvalidText', {'line': 0, 'field': 2}, read_event, EVEN, 'widen 0 3')

    def test_69_a_desk(self):
        desk = Desk(PAIRS, ONE)
        self.same([desk.say('lose 1'), desk.say('signs'), desk.say('bars mend 1'), desk.say('undo')], [
            '1 1', '1 - 0 0', '-', 'lose 1'])
        self.raises('InvalidRow', {'row': 'lose'}, desk.say, 'lose')
        self.same(desk.counts(), (5, 5))


class WholeTest(Pointed):
    def test_each_error_is_of_its_family(self):
        for kind, family in (
                (InvalidPaper, errors.PaperError), (NotUsable, errors.BookError), (InvalidEvent, errors.LiveError),
                (errors.NothingToUndo, errors.LiveError), (errors.Broken, errors.LiveError),
                (InvalidText, errors.TextError), (errors.InvalidRow, errors.TextError)):
            self.assertEqual([kind.__bases__, family.__bases__, MendError.__bases__], [
                (family,), (MendError,), (ValueError,)])

    def test_what_was_returned_may_be_passed_in_again(self):
        it = Powered(7, 2, 2, 3)
        live = Live(it.book_now, it.word_by((1, 2, 3)))
        self.same(live.widen(it.word_by((0, 1, 0))), (0, 0))
        shelf = Book.of(live.book_now)
        self.same([shelf(live.signs_now), lets_book(shelf.book_now)], [True, 4])
        self.same(lets_apart(live.book_now, apart_paper(live.book_now)), apart_of(live.book_now))
        signs = (None, *live.signs_now[1:6], None)
        self.same(Loss(live.book_now, (0, 6))(signs), filled(live.book_now, signs))

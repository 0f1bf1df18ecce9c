import unittest
from random import Random

from faults import Small
from helpers import (
    ALONE, EVEN, FOUR, FREE, NOT_BOOKS, ODD, PAIRS, Raising, all_lots, by_powers, few_places, random_book,
    small_books)
from mendfew.bookparts import told_on, told_signs
from mendfew.fewness import fewest_of
from mendfew.losses import is_mended, told_back


class LossesTest(Raising, unittest.TestCase):
    def test_examples(self):
        self.same(
            [told_back(EVEN, (0,)), told_back(EVEN, (0, 1)), told_back(PAIRS, (0, 1, 2)),
             is_mended(PAIRS, (0, 2)), is_mended(EVEN, ())],
            [(0,), (), (2,), True, True])

    def test_against_all_sums(self):
        for book in few_places() + small_books(most_words=700, each=3):
            small = Small(book)
            for lost in all_lots(book[1]):
                back = small.told_back(lost)
                self.same(told_back(book, lost), back)
                self.same(is_mended(book, lost), back == lost)

    def test_either_told_or_unlike(self):
        for book in small_books(most_words=250):
            small = Small(book)
            for lost in all_lots(book[1]):
                # Two words differ there and are alike elsewhere exactly if one, less the other, is so.
                unlike = {place for word in small.words for place in range(book[1]) if word[place]
                          and not any(sign for at, sign in enumerate(word) if at not in lost)}
                self.same(told_back(book, lost), tuple(place for place in lost if place not in unlike))

    def test_no_place_and_all_places(self):
        for book in (EVEN, PAIRS, FREE, FOUR, (2, 1, ())):
            self.same(told_back(book, ()), ())
            self.same(is_mended(book, ()), True)
            self.same(told_back(book, tuple(range(book[1]))), ())
            self.same(is_mended(book, tuple(range(book[1]))), False)
        for book in (ALONE, (3, 2, ((1, 1), (1, 2)))):
            self.same(told_back(book, tuple(range(book[1]))), tuple(range(book[1])))
            self.same(is_mended(book, tuple(range(book[1]))), True)
        self.same(told_back((3, 3, ((0, 1, 0),)), (0, 1, 2)), (1,))
        self.same(is_mended((3, 3, ((0, 1, 0),)), (0, 1, 2)), False)

    def test_books_without_sums(self):
        for lost in all_lots(4):
            self.same(told_back((5, 4, ()), lost), ())
            self.same(is_mended((5, 4, ()), lost), lost == ())

    def test_ten_places_by_powers(self):
        chance = Random(37)
        for told in (1, 4, 9):
            book = by_powers(13, 10, told)
            for many in range(11):
                lost = tuple(sorted(chance.sample(range(10), many)))
                self.same(told_back(book, lost), lost if many <= 10 - told else ())
                self.same(is_mended(book, lost), many <= 10 - told)

    def test_large_books(self):
        book = (999983, 100, ((1,) * 100,))
        self.same(told_back(book, (99,)), (99,))
        self.same(is_mended(book, (0, 99)), False)

    def test_wrong_values(self):
        for call in (told_back, is_mended):
            for book in NOT_BOOKS:
                self.not_usable('book', call, book, ())
                self.not_usable('book', call, book, None)
            for lost in [thing for thing in ODD if thing != ()] + [
                    0, (3,), (1, 0), (0, 0), (0, 3), [0, 1], (0, True), (False, 1), ('0',), ((0,),)]:
                self.not_usable('lost', call, EVEN, lost)

    def test_by_name_in_any_order(self):
        self.same(told_back(lost=(0, 1, 2), book=PAIRS), (2,))
        self.same(is_mended(lost=(0, 1, 2), book=PAIRS), False)


class ConsequencesTest(unittest.TestCase):
    def books(self):
        chance = Random(38)
        return small_books() + [random_book(chance, prime, 8, 4) for prime in (2, 5, 13)]

    def test_fewer_lost_places(self):
        for book in self.books():
            for lost in all_lots(book[1]):
                back = told_back(book, lost)
                for place in lost:
                    fewer = tuple(other for other in lost if other != place)
                    self.assertLessEqual(set(back) - {place}, set(told_back(book, fewer)))

    def test_one_place(self):
        for book in self.books():
            for place in range(book[1]):
                back = told_back(book, (place,))
                self.assertEqual(back, () if fewest_of(book, place) is None else (place,))

    def test_all_places_of_a_lot(self):
        for book in self.books():
            for lost in all_lots(book[1]):
                kept = tuple(place for place in range(book[1]) if place not in lost)
                self.assertEqual(is_mended(book, lost), told_on(book, kept) == told_signs(book))

"""Each name of the interface stands in the file under which the document lists it."""

import importlib
import inspect
import unittest

NAMES = {
    'errors': [
        'MendError', 'PaperError', 'BookError', 'LiveError', 'TextError', 'InvalidPaper', 'NotUsable',
        'InvalidEvent', 'NothingToUndo', 'Broken', 'InvalidText', 'InvalidRow'],
    'kinds': ['is_integer', 'is_number', 'is_prime'],
    'bookchecker': ['is_book', 'lets_book', 'is_lot', 'is_word'],
    'bookparts': ['told_signs', 'told_on', 'keeps', 'base_words', 'base_sums', 'all_words'],
    'bookchanges': [
        'renumbered', 'with_sum', 'with_place', 'side_by_side', 'without_place', 'with_nought'],
    'booktexts': ['book_text', 'lot_text', 'signs_text'],
    'bookreadings': ['book_read', 'lot_read', 'signs_read'],
    'bookclasses': ['Book', 'Repeated'],
    'fewness': ['fewest_of', 'few_of', 'sums_of', 'groups_of', 'sign_by'],
    'apartness': ['apart_of', 'near_words', 'near_lots', 'weights_of', 'signs_within', 'differ_at'],
    'likeness': [
        'same_words', 'reduced', 'renumbering_to', 'renumberings_of', 'like_places', 'plain_book'],
    'fewpapers': ['few_paper'],
    'fewchecker': ['lets_few'],
    'apartpapers': ['apart_paper'],
    'apartchecker': ['lets_apart'],
    'losses': ['told_back', 'is_mended'],
    'losspapers': ['loss_paper'],
    'losschecker': ['lets_loss'],
    'mending': ['filled'],
    'readings': ['reads_for', 'least_cost', 'reads_for_all', 'cost_for_all'],
    'goings': ['goings', 'left_by', 'is_mended_by', 'stuck_lots'],
    'mendclasses': ['Loss', 'Burst'],
    'price': ['price_of', 'few_lot', 'is_best'],
    'lotpapers': ['lot_paper'],
    'lotchecker': ['lets_lot'],
    'powers': [
        'primitive_of', 'class_numbers', 'powers_used', 'powers_places', 'powers_groups', 'powers_book'],
    'nested': ['nested_used', 'nested_groups', 'nested_book'],
    'crossed': ['crossed_used', 'crossed_groups', 'crossed_book'],
    'powerclasses': ['Powered'],
    'noughtchecker': ['lets_noughts'],
    'counting': ['losses_by_size', 'goings_by_size'],
    'liveevents': ['is_event'],
    'lives': ['Live', 'Careful', 'rehearsed'],
    'livelogs': ['is_story', 'replayed'],
    'livetexts': ['event_line', 'story_lines'],
    'livereadings': ['read_event', 'read_story'],
    'desks': ['Desk'],
}


class InterfaceTest(unittest.TestCase):
    def test_defined_where_listed(self):
        for file, names in NAMES.items():
            module = importlib.import_module(f'mendfew.{file}')
            for name in names:
                self.assertEqual(getattr(module, name).__module__, f'mendfew.{file}')

    def test_all_words_is_a_generator(self):
        module = importlib.import_module('mendfew.bookparts')
        self.assertTrue(inspect.isgeneratorfunction(module.all_words))

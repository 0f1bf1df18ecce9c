import unittest

from helpers import fields_of
from mendfew import errors

FAMILIES = ('PaperError', 'BookError', 'LiveError', 'TextError')

FIELDS = {
    'InvalidPaper': ('PaperError', ('word', 'at')),
    'NotUsable': ('BookError', ('word', 'at')),
    'InvalidEvent': ('LiveError', ('event', 'reason')),
    'NothingToUndo': ('LiveError', ('steps',)),
    'Broken': ('LiveError', ('done',)),
    'InvalidText': ('TextError', ('line', 'field')),
    'InvalidRow': ('TextError', ('row',)),
}


class ErrorsTest(unittest.TestCase):
    def test_families(self):
        self.assertEqual(errors.MendError.__bases__, (ValueError,))
        for name in FAMILIES:
            self.assertEqual(getattr(errors, name).__bases__, (errors.MendError,))

    def test_each_error_has_its_family_and_fields(self):
        for name, (family, fields) in FIELDS.items():
            made = getattr(errors, name)
            self.assertEqual(made.__bases__, (getattr(errors, family),))
            by_position = made(*range(len(fields)))
            by_name = made(**{field: at for at, field in reversed(list(enumerate(fields)))})
            for error in (by_position, by_name):
                told = {field: at for at, field in enumerate(fields)}
                self.assertEqual(fields_of(error), (name, told))

    def test_fields_are_kept_as_they_are(self):
        for value in (None, [1, [2]], (True, 1), 'a\nb', 10 ** 59, 10 ** 5000, {}):
            for name, (_, fields) in FIELDS.items():
                error = getattr(errors, name)(*[value] * len(fields))
                for field in fields:
                    self.assertIs(getattr(error, field), value)

    def test_exactly_its_fields(self):
        for name, (_, fields) in FIELDS.items():
            made = getattr(errors, name)
            with self.assertRaises(TypeError):
                made(*range(len(fields) - 1))
            with self.assertRaises(TypeError):
                made(*range(len(fields) + 1))

    def test_each_can_be_raised_and_caught_as_value_error(self):
        for name, (family, fields) in FIELDS.items():
            with self.assertRaises(ValueError) as caught:
                raise getattr(errors, name)(*range(len(fields)))
            self.assertIsInstance(caught.exception, getattr(errors, family))

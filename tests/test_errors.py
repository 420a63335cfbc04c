"""The errors: families, fields, and that the fields are kept as they are."""

import unittest

from tests.support import BIG, nested, same, strange_values
from thinspans.errors import (
    BookError, InvalidEvent, InvalidPaper, InvalidRow, InvalidText, NothingToUndo, NotTold, NotUsable,
    PaperError, TextError, ThinError, TraceError)

ERRORS = (
    (InvalidPaper, PaperError, ('word', 'at')),
    (NotUsable, TraceError, ('word', 'at')),
    (NotTold, TraceError, ('question',)),
    (InvalidEvent, BookError, ('event', 'reason')),
    (NothingToUndo, BookError, ('steps',)),
    (InvalidText, TextError, ('line', 'field')),
    (InvalidRow, TextError, ('row',)),
)


class Errors(unittest.TestCase):

    def test_families(self):
        self.assertEqual((ValueError,), ThinError.__bases__)
        for family in (PaperError, TraceError, BookError, TextError):
            self.assertEqual((ThinError,), family.__bases__)
        for error, family, _ in ERRORS:
            self.assertEqual((family,), error.__bases__)

    def test_fields_by_position_and_by_name(self):
        for error, _, fields in ERRORS:
            values = [f'value {k}' for k in range(len(fields))]
            for made in (error(*values), error(**dict(zip(fields, values)))):
                self.assertEqual(dict(zip(fields, values)), vars(made))

    def test_fields_may_be_any_values(self):
        for value in strange_values() + [nested(40, BIG)]:
            for error, _, fields in ERRORS:
                made = error(*[value for _ in fields])
                for field in fields:
                    self.assertIs(value, getattr(made, field))
                    self.assertTrue(same(value, getattr(made, field)))

    def test_exactly_the_fields(self):
        for error, _, fields in ERRORS:
            values = [0 for _ in fields]
            with self.assertRaises(TypeError):
                error(*values, 0)
            with self.assertRaises(TypeError):
                error(*values[1:])
            with self.assertRaises(TypeError):
                error(*values, more=0)

    def test_caught_by_family_and_as_value_error(self):
        for error, family, fields in ERRORS:
            for caught in (error, family, ThinError, ValueError):
                with self.assertRaises(caught):
                    raise error(*[None for _ in fields])

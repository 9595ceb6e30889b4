"""c13: the error classes, their base and their fields."""

import unittest

from remoteviews.errors import (
    BadArgument,
    BadEntry,
    BadExpression,
    BadMessage,
    BadPatch,
    BadSigns,
    BadTemplate,
    NotNext,
    ViewError,
)

# Each class with the names of its fields and the values to make one with.
FIELDS = [
    (BadSigns, {"offset": 7}),
    (BadTemplate, {"line": 41, "reason": "too many lines"}),
    (BadExpression, {}),
    (BadMessage, {}),
    (BadPatch, {}),
    (BadEntry, {"line": 3}),
    (NotNext, {"line": 300}),
    (BadArgument, {"reason": "clients"}),
]
CLASSES = [kind for kind, _ in FIELDS]


def caught(kind, error):
    """Whether the error is caught by the name of a class."""
    try:
        raise error
    except kind as seen:
        return seen is error
    except Exception:
        return False


class Errors(unittest.TestCase):
    def test_each_is_caught_by_its_own_name_and_by_its_bases(self):
        for kind, fields in FIELDS:
            with self.subTest(kind.__name__):
                self.assertTrue(caught(kind, kind(*fields.values())))
                self.assertTrue(caught(ViewError, kind(*fields.values())))
                self.assertTrue(caught(ValueError, kind(*fields.values())))

    def test_view_error_itself(self):
        self.assertTrue(caught(ViewError, ViewError()))
        self.assertTrue(caught(ValueError, ViewError()))
        self.assertEqual(ViewError.__bases__, (ValueError,))

    def test_view_error_is_the_base_of_each(self):
        for kind in CLASSES:
            self.assertTrue(issubclass(kind, ViewError), kind)

    def test_none_of_the_others_is_a_base_of_another(self):
        for kind in CLASSES:
            self.assertFalse(caught(kind, ViewError()), kind)
            for other, fields in FIELDS:
                if other is not kind:
                    self.assertFalse(caught(kind, other(*fields.values())), (kind, other))

    def test_fields_have_the_values_they_were_made_with(self):
        for kind, fields in FIELDS:
            with self.subTest(kind.__name__):
                self.assertEqual(vars(kind(*fields.values())), fields)
                self.assertEqual(vars(kind(**fields)), fields)

    def test_fields_of_two_errors_are_apart(self):
        first, second = BadTemplate(1, "empty line"), BadTemplate(2, "not allowed here")
        self.assertEqual((first.line, first.reason), (1, "empty line"))
        self.assertEqual((second.line, second.reason), (2, "not allowed here"))


if __name__ == "__main__":
    unittest.main()

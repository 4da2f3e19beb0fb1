"""Point 1 and wheelnines/errors.py: the error classes."""

import unittest

from tests.case import ANY_VALUES, FIELDS, Case
from wheelnines import errors
from wheelnines.errors import Nothing, TooGreat, WheelError

BELOW_WHEEL_ERROR = (
    "BadBase",
    "BadDenominator",
    "BadFraction",
    "BadDigits",
    "BadNumber",
    "BadPaper",
    "BadText",
    "BadSeen",
    "BadFacts",
)


class ErrorClasses(Case):
    def test_all_are_listed_here(self):
        names = [error.__name__ for error in FIELDS]
        self.assertEqual(sorted(names), sorted(BELOW_WHEEL_ERROR + ("TooGreat", "Nothing")))

    def test_defined_in_this_file(self):
        for error in (WheelError, *FIELDS):
            self.assertEqual(error.__module__, "wheelnines.errors")
            self.assertIs(getattr(errors, error.__name__), error)

    def test_parents(self):
        self.assertEqual(WheelError.__bases__, (ValueError,))
        for name in BELOW_WHEEL_ERROR:
            self.assertEqual(getattr(errors, name).__bases__, (WheelError,), name)
        self.assertEqual(TooGreat.__bases__, (OverflowError,))
        self.assertEqual(Nothing.__bases__, (LookupError,))

    def test_none_is_below_another(self):
        for one in FIELDS:
            for two in FIELDS:
                self.assertEqual(issubclass(one, two), one is two)
        for error in (TooGreat, Nothing):
            self.assertFalse(issubclass(error, WheelError))
            self.assertFalse(issubclass(error, ValueError))

    def test_a_class_does_not_catch_another(self):
        for one in FIELDS:
            for two in FIELDS:
                if one is not two:
                    with self.assertRaises(one):
                        try:
                            raise one(7)
                        except two:
                            self.fail(f"{two.__name__} catches {one.__name__}")

    def test_parents_catch(self):
        for error in FIELDS:
            parent = {TooGreat: OverflowError, Nothing: LookupError}.get(error, WheelError)
            with self.assertRaises(parent):
                raise error(7)


class ErrorFields(Case):
    def test_by_position(self):
        for error, field in FIELDS.items():
            for value in ANY_VALUES:
                self.assertIs(getattr(error(value), field), value)

    def test_by_name(self):
        for error, field in FIELDS.items():
            for value in ANY_VALUES:
                self.assertIs(getattr(error(**{field: value}), field), value)

    def test_kept_through_raise(self):
        for error, field in FIELDS.items():
            with self.assertRaises(error) as caught:
                raise error("kept")
            self.assertEqual(getattr(caught.exception, field), "kept")

    def test_objects_are_independent(self):
        for error, field in FIELDS.items():
            one, two = error(1), error(2)
            self.assertEqual((getattr(one, field), getattr(two, field)), (1, 2))

    def test_texts_can_be_made(self):
        for error in FIELDS:
            for value in ANY_VALUES:
                self.assertIsInstance(str(error(value)), str)


class AnyText(Case):
    def test_wheel_error_with_any_text(self):
        for text in ("", "no", "two words", "a\nb", "~ !\"'", "x" * 20000):
            with self.assertRaises(WheelError) as caught:
                raise WheelError(text)
            self.assertIs(type(caught.exception), WheelError)
            self.assertIsInstance(caught.exception, ValueError)


if __name__ == "__main__":
    unittest.main()

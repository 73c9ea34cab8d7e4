"""The error classes."""

import unittest

from safeupto import errors
from tests.helpers import Case, Touchy

WITH_VALUE = ["InvalidName", "InvalidNumber", "InvalidBody", "InvalidProgram", "InvalidState", "InvalidChoice",
              "InvalidCondition", "InvalidSize", "InvalidPaper", "InvalidCommand"]
FIELDS = {**{name: "value" for name in WITH_VALUE}, "ParseError": "line", "TooMany": "limit"}
BASES = {**{name: errors.SafeError for name in WITH_VALUE}, "ParseError": errors.SafeError,
         "SafeError": ValueError, "TooMany": OverflowError,
         "NothingToUndo": LookupError, "NothingToRedo": LookupError}


class Errors(Case):

    def test_fields_keep_the_very_value(self):
        for name, field in FIELDS.items():
            made = getattr(errors, name)
            for value in [None, 0, 150, "x", (1, 2), [1, [2]], {"a": []}, object(), Touchy(), float("nan")]:
                with self.subTest(name):
                    self.assertIs(getattr(made(value), field), value)
                    self.assertIs(getattr(made(**{field: value}), field), value)

    def test_field_is_not_copied(self):
        for name, field in FIELDS.items():
            value = [1]
            error = getattr(errors, name)(value)
            value.append(2)
            self.assertEqual(getattr(error, field), [1, 2])

    def test_exactly_one_argument(self):
        for name, field in FIELDS.items():
            made = getattr(errors, name)
            self.assertRaises(TypeError, made)
            self.assertRaises(TypeError, made, 1, 2)
            self.assertRaises(TypeError, made, **{"other": 1})

    def test_only_the_own_field(self):
        for name, field in FIELDS.items():
            error = getattr(errors, name)(1)
            for other in {"value", "line", "limit"} - {field}:
                self.assertFalse(hasattr(error, other), name)

    def test_without_fields(self):
        for made in [errors.NothingToUndo, errors.NothingToRedo]:
            error = made()
            for field in ["value", "line", "limit"]:
                self.assertFalse(hasattr(error, field))

    def test_bases(self):
        for name, base in BASES.items():
            self.assertTrue(issubclass(getattr(errors, name), base), name)
            self.assertIn(base, getattr(errors, name).__mro__, name)

    def test_no_other_base_in_the_package(self):
        own = {name: getattr(errors, name) for name in BASES}
        for name, one in own.items():
            for other_name, other in own.items():
                expected = name == other_name or (other_name == "SafeError" and BASES[name] is errors.SafeError)
                self.assertEqual(issubclass(one, other), expected, (name, other_name))

    def test_not_of_the_other_python_errors(self):
        for name in ["TooMany", "NothingToUndo", "NothingToRedo"]:
            self.assertFalse(issubclass(getattr(errors, name), ValueError))
        self.assertFalse(issubclass(errors.NothingToUndo, (KeyError, IndexError)))
        self.assertFalse(issubclass(errors.NothingToRedo, (KeyError, IndexError)))

    def test_there_are_no_others(self):
        found = [name for name, one in vars(errors).items() if isinstance(one, type)]
        self.assertEqual(sorted(found), sorted(BASES))

    def test_defined_in_this_file(self):
        for name in BASES:
            self.assertEqual(getattr(errors, name).__module__, "safeupto.errors")

    def test_raised_and_caught(self):
        for name, field in FIELDS.items():
            made = getattr(errors, name)
            with self.assertRaises(BASES[name]) as caught:
                raise made(name)
            self.assertIs(getattr(caught.exception, field), name)


if __name__ == "__main__":
    unittest.main()

"""The classes of oddcrown.errors."""

import unittest

from oddcrown import errors

PLAIN = ["BadSize", "BadMark", "BadKind", "BadNumber", "BadChance", "BadTarget", "NotHere", "NoBranch",
         "NotSo", "LastBranch", "NothingToUndo", "NothingToRedo"]
FIELDS = {"BadStrategy": ["place"], "BadText": ["line", "column"], "UnknownName": ["line", "column"],
          "TwoNames": ["line"], "BadEntry": ["place"]}


class ErrorsTest(unittest.TestCase):
    def test_the_module_has_these_classes_and_no_others(self):
        found = sorted(name for name, value in vars(errors).items() if isinstance(value, type))
        self.assertEqual(found, sorted(PLAIN + list(FIELDS) + ["CrownError"]))

    def test_the_base_class_stands_directly_under_value_error(self):
        self.assertEqual(errors.CrownError.__bases__, (ValueError,))

    def test_each_class_stands_directly_under_the_base_class(self):
        for name in PLAIN + list(FIELDS):
            self.assertEqual(getattr(errors, name).__bases__, (errors.CrownError,), name)

    def test_an_error_is_of_its_own_class_and_of_no_other_one(self):
        made = {name: getattr(errors, name)() for name in PLAIN}
        made.update({name: getattr(errors, name)(*range(len(fields))) for name, fields in FIELDS.items()})
        for name, error in made.items():
            self.assertIsInstance(error, ValueError)
            self.assertIsInstance(error, errors.CrownError)
            for other in PLAIN + list(FIELDS):
                self.assertEqual(isinstance(error, getattr(errors, other)), other == name, (name, other))

    def test_the_fields_are_the_arguments(self):
        for name, fields in FIELDS.items():
            told = [17 + 5 * k for k in range(len(fields))]
            error = getattr(errors, name)(*told)
            self.assertEqual([getattr(error, field) for field in fields], told)
            self.assertEqual(vars(error), dict(zip(fields, told)))

    def test_fields_can_be_told_by_keyword(self):
        self.assertEqual(errors.BadText(column=3, line=8).column, 3)
        self.assertEqual(errors.UnknownName(column=3, line=8).line, 8)

    def test_each_error_can_be_caught_as_the_base_class(self):
        for name in PLAIN:
            with self.assertRaises(errors.CrownError):
                raise getattr(errors, name)()
        for name, fields in FIELDS.items():
            with self.assertRaises(errors.CrownError):
                raise getattr(errors, name)(*[1] * len(fields))


if __name__ == "__main__":
    unittest.main()

"""certsums.errors: the classes, their base and their fields."""

import unittest

from certsums import errors

WITHOUT_FIELDS = ["DivisionByZero", "ZeroPolynomial", "InvalidTerm", "InvalidSum", "InvalidRow"]
WITH_FIELD = {
    "Pole": "where",
    "InvalidText": "where",
    "BeforeStart": "index",
    "InvalidName": "name",
    "DuplicateName": "name",
    "UnknownName": "name",
    "WrongKind": "name",
}


class ErrorsTest(unittest.TestCase):
    def test_base_is_a_direct_subclass_of_value_error(self):
        self.assertEqual(errors.SummationError.__bases__, (ValueError,))

    def test_all_others_are_direct_subclasses_of_the_base(self):
        for name in WITHOUT_FIELDS + list(WITH_FIELD):
            self.assertEqual(getattr(errors, name).__bases__, (errors.SummationError,), name)

    def test_there_are_no_further_classes(self):
        found = [name for name, value in vars(errors).items() if isinstance(value, type)]
        self.assertEqual(sorted(found), sorted(["SummationError"] + WITHOUT_FIELDS + list(WITH_FIELD)))

    def test_without_fields(self):
        for name in WITHOUT_FIELDS:
            with self.assertRaises(errors.SummationError):
                raise getattr(errors, name)("told")
            self.assertEqual(vars(getattr(errors, name)("told")), {})

    def test_fields(self):
        for name, field in WITH_FIELD.items():
            for value in (["a1", ""] if field == "name" else [0, -7, 10 ** 399]):
                error = getattr(errors, name)(value)
                self.assertEqual(vars(error), {field: value})
                self.assertIsInstance(str(error), str)


if __name__ == "__main__":
    unittest.main()

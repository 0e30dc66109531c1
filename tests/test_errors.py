"""Point 2: the errors."""

import unittest

from mingle import errors

PLAIN = ["InvalidRulebook", "WrongCounts", "InvalidFormula", "InvalidFunction", "NotJoinable", "InvalidTask"]
WITH_FIELD = {
    "NotPossible": ("index", 3),
    "UnknownState": ("name", "q7"),
    "InvalidText": ("line", 12),
    "TooLarge": ("limit", 2000),
    "UnknownName": ("name", "x"),
    "TooManyStates": ("limit", 400),
    "NotAgents": ("index", 0),
}


class ErrorsTest(unittest.TestCase):
    def test_base(self):
        self.assertEqual(errors.MingleError.__bases__, (ValueError,))

    def test_every_error_is_there_and_under_the_base_alone(self):
        for name in [*PLAIN, *WITH_FIELD]:
            self.assertEqual(getattr(errors, name).__bases__, (errors.MingleError,), name)

    def test_each_is_a_class_of_its_own_module(self):
        for name in ["MingleError", *PLAIN, *WITH_FIELD]:
            self.assertEqual(getattr(errors, name).__module__, "mingle.errors")

    def test_fields(self):
        for name, (field, value) in WITH_FIELD.items():
            error = getattr(errors, name)(value)
            self.assertEqual(getattr(error, field), value, name)

    def test_messages_tell_the_fields(self):
        for name, (_, value) in WITH_FIELD.items():
            self.assertIn(str(value), str(getattr(errors, name)(value)), name)

    def test_plain_errors_take_a_message(self):
        for name in PLAIN:
            self.assertEqual(str(getattr(errors, name)("why")), "why")


if __name__ == "__main__":
    unittest.main()

"""Points 3 and 4: the error classes, and what holds for the whole program."""

import unittest

from unbent import errors
from unbent.errors import TextError, UnbentError

WITH_ONE = {
    "TooLarge": "limit",
    "InvalidGame": "reason",
    "InvalidProgram": "reason",
    "InvalidSystem": "reason",
    "InvalidThresholds": "reason",
    "InvalidBidders": "reason",
    "InvalidMenu": "reason",
    "InvalidWishes": "reason",
    "InvalidNumber": "text",
    "UnknownProfile": "profile",
    "WrongKey": "member",
    "UnknownMachine": "machine",
    "MachineStopped": "machine",
    "UnknownLetter": "number",
}

WITHOUT = [
    "ZeroDenominator", "NotHonest", "NotPlain", "HasGoodRule", "InvalidTree", "InvalidBox", "InvalidClock",
    "InvalidLot", "InvalidTicket", "InvalidCount", "InvalidMatrix", "InvalidCosts", "InvalidKeys",
    "InvalidContent", "InvalidRound", "InvalidReport", "InvalidPlay", "InvalidLine", "InvalidRecord",
]


class Errors(unittest.TestCase):
    def test_base_is_a_value_error(self):
        self.assertEqual(UnbentError.__bases__, (ValueError,))

    def test_every_class_is_directly_below_the_base(self):
        for name in ["TextError", *WITH_ONE, *WITHOUT]:
            with self.subTest(name):
                self.assertEqual(getattr(errors, name).__bases__, (UnbentError,))
                self.assertEqual(getattr(errors, name).__module__, "unbent.errors")

    def test_there_are_no_other_classes(self):
        found = [name for name, item in vars(errors).items() if isinstance(item, type)]
        self.assertEqual(sorted(found), sorted(["UnbentError", "TextError", *WITH_ONE, *WITHOUT]))

    def test_classes_with_one_argument(self):
        for name, attribute in WITH_ONE.items():
            for value in ("agents", 3, (0, 1)):
                with self.subTest(name=name, value=value):
                    error = getattr(errors, name)(value)
                    self.assertEqual(getattr(error, attribute), value)
                    with self.assertRaises(UnbentError):
                        raise error

    def test_classes_without_arguments(self):
        for name in WITHOUT:
            with self.subTest(name), self.assertRaises(ValueError):
                raise getattr(errors, name)()

    def test_text_error(self):
        error = TextError(7, "count")
        self.assertEqual((error.line, error.reason), (7, "count"))


if __name__ == "__main__":
    unittest.main()

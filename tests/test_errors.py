"""Tests of marketdays.errors: promise [3]."""

import unittest

from marketdays import errors

NAMES = ["InvalidName", "InvalidTown", "DoubleTown", "InvalidNote", "UnknownTown", "UnknownNote",
         "InvalidDay", "InvalidLot", "Quarrel", "NothingToUndo", "Unreadable"]


class ErrorsTest(unittest.TestCase):

    def test_market_error_is_a_value_error(self):
        self.assertEqual(errors.MarketError.__mro__,
                         (errors.MarketError, ValueError, Exception, BaseException, object))

    def test_each_other_class_is_a_market_error_and_of_no_other_class(self):
        for name in NAMES:
            made = getattr(errors, name)
            self.assertEqual(made.__mro__, (made,) + errors.MarketError.__mro__)
            self.assertEqual(made.__name__, name)

    def test_there_are_just_these_classes(self):
        found = [name for name in vars(errors) if not name.startswith("_")]
        self.assertEqual(sorted(found), sorted(NAMES + ["MarketError"]))

    def test_the_value_is_kept_itself_by_position_and_by_name(self):
        values = [0, -3, "", "ulm", None, True, (), ("market", "ulm", -1), [], [1, [2]], {"a": 1}, object(),
                  errors.Quarrel(0), errors.MarketError]
        for name in NAMES + ["MarketError"]:
            made = getattr(errors, name)
            for value in values:
                self.assertIs(made(value).value, value)
                self.assertIs(made(value=value).value, value)

    def test_just_one_argument_is_taken(self):
        for name in NAMES + ["MarketError"]:
            made = getattr(errors, name)
            for arguments, named in [((), {}), ((1, 2), {}), ((1,), {"value": 2}), ((), {"day": 1})]:
                with self.assertRaises(TypeError):
                    made(*arguments, **named)

    def test_an_error_is_caught_by_its_bases_alone(self):
        for name in NAMES:
            made = getattr(errors, name)
            for other in NAMES:
                self.assertEqual(issubclass(made, getattr(errors, other)), name == other)
            with self.assertRaises(ValueError) as caught:
                raise made([name])
            self.assertEqual(caught.exception.value, [name])


if __name__ == "__main__":
    unittest.main()

"""Point 8 and the interface of allsomeno/errors.py."""

import unittest

from allsomeno.errors import BadValue, LogicError, NotPossible, TextError, TooLarge

BELOW = (BadValue, TooLarge, NotPossible, TextError)


class Errors(unittest.TestCase):
    def test_logic_error_is_a_value_error(self):
        self.assertTrue(issubclass(LogicError, ValueError))
        self.assertEqual(LogicError.__bases__, (ValueError,))

    def test_all_others_are_logic_errors(self):
        for error in BELOW:
            self.assertTrue(issubclass(error, LogicError), error)

    def test_none_below_is_a_subclass_of_another_one(self):
        for error in BELOW:
            for other in BELOW:
                self.assertEqual(issubclass(error, other), error == other)

    def test_attributes(self):
        self.assertEqual(BadValue("signature").name, "signature")
        self.assertEqual(TooLarge("model").what, "model")
        self.assertEqual(NotPossible("numbers").why, "numbers")
        problem = TextError(11, "expected a noun")
        self.assertEqual((problem.column, problem.words), (11, "expected a noun"))

    def test_each_is_caught_as_a_logic_error(self):
        for error in (BadValue("index"), TooLarge("model"), NotPossible("numbers"), TextError(1, "expected a noun")):
            with self.assertRaises(LogicError):
                raise error

    def test_messages_tell_what_is_wrong(self):
        self.assertIn("order", str(BadValue("order")))
        self.assertIn("model", str(TooLarge("model")))
        self.assertIn("numbers", str(NotPossible("numbers")))
        self.assertIn("11", str(TextError(11, "expected a noun")))
        self.assertIn("expected a noun", str(TextError(11, "expected a noun")))


if __name__ == "__main__":
    unittest.main()

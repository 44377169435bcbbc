"""The errors: their order, and what they keep."""

import unittest

from seamlots import wrongs
from tests import plain

MADE_OF_A_TEXT = ["NoMachine", "NoWord", "NotAlike", "NoCut", "NoChain", "NotClosed", "NoPattern", "NoLetters",
                  "NoLengths", "NoWay", "NoRecord"]
KEEPING = {"NoName": "name", "NameTaken": "name", "UnknownName": "name", "NoMark": "number", "TooMany": "limit"}


class Wrongs(unittest.TestCase):
    def test_seam_error_is_right_under_value_error(self):
        self.assertEqual(wrongs.SeamError.__bases__, (ValueError,))

    def test_each_class_is_right_under_seam_error(self):
        for name in MADE_OF_A_TEXT + list(KEEPING):
            with self.subTest(name):
                self.assertEqual(getattr(wrongs, name).__bases__, (wrongs.SeamError,))
                self.assertEqual(getattr(wrongs, name).__module__, "seamlots.wrongs")

    def test_classes_are_made_of_a_text(self):
        for name in ["SeamError"] + MADE_OF_A_TEXT:
            for text in ("", "a text", "a\nb", "x" * 1000):
                with self.subTest(name, text=text):
                    self.assertEqual(str(getattr(wrongs, name)(text)), text)

    def test_arguments_are_kept(self):
        for name, field in KEEPING.items():
            for value in plain.any_values() + ["name", 5, 32, plain.nested(5000), {"a": 1}]:
                error = getattr(wrongs, name)(value)
                self.assertIs(getattr(error, field), value)
                self.assertEqual(list(vars(error)), [field])
                # A text that shows the value would not come to an end for each of them.
                self.assertIsInstance(str(error), str)

    def test_arguments_are_named_as_the_fields(self):
        for name, field in KEEPING.items():
            self.assertEqual(getattr(getattr(wrongs, name)(**{field: [1]}), field), [1])

    def test_each_class_can_be_raised_and_caught(self):
        for name in MADE_OF_A_TEXT + list(KEEPING):
            made = getattr(wrongs, name)("a")
            for caught in (getattr(wrongs, name), wrongs.SeamError, ValueError):
                with self.subTest(name), self.assertRaises(caught) as told:
                    raise made
                self.assertIs(told.exception, made)


if __name__ == "__main__":
    unittest.main()

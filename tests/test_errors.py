"""errors.py: one base and 25 classes, each with one argument."""

import unittest

from keytellers import errors
from keytellers.errors import TellError

NAMES = (
    "InvalidBook", "InvalidWord", "InvalidNumber", "InvalidKey", "InvalidCell", "InvalidRow", "InvalidLot",
    "InvalidTable", "InvalidValues", "InvalidRoad", "InvalidSeats", "NotFree", "NoTable", "NoSeats", "InvalidPlacing",
    "InvalidChain", "InvalidMixing", "InvalidFilter", "InvalidName", "HasCore", "NotGood", "UnknownName",
    "NothingToUndo", "Unreadable", "Unorderly",
)
VALUES = (0, -1, True, None, "", "a text", "100 %", (), (1, (2,)), [], [[1], {}], {"a": [1]}, b"x", 1 << 700)


class Errors(unittest.TestCase):
    def classes(self):
        return [getattr(errors, name) for name in NAMES]

    def test_names(self):
        self.assertEqual(len(set(NAMES)), 25)
        for told, name in zip(self.classes(), NAMES):
            self.assertEqual((told.__name__, told.__module__), (name, "keytellers.errors"))

    def test_bases(self):
        self.assertEqual(TellError.__bases__, (ValueError,))
        for told in self.classes():
            with self.subTest(told=told):
                self.assertTrue(issubclass(told, TellError))
                self.assertTrue(issubclass(told, ValueError))

    def test_no_sisters(self):
        for one in self.classes():
            self.assertFalse(issubclass(TellError, one))
            for other in self.classes():
                self.assertEqual(issubclass(one, other), one is other)

    def test_value(self):
        for told in (TellError, *self.classes()):
            for value in VALUES:
                with self.subTest(told=told, value=value):
                    self.assertIs(told(value).value, value)
                    self.assertIs(told(value=value).value, value)
                    self.assertIs(type(told(value)), told)

    def test_one_argument(self):
        for told in (TellError, *self.classes()):
            with self.assertRaises(TypeError):
                told()
            with self.assertRaises(TypeError):
                told(1, 2)

    def test_raised_and_caught(self):
        for told in (TellError, *self.classes()):
            for base in (told, TellError, ValueError):
                with self.assertRaises(base) as caught:
                    raise told([1, 2])
                self.assertIs(type(caught.exception), told)
                self.assertEqual(caught.exception.value, [1, 2])

    def test_value_of_any_size(self):
        # Python makes no text of an integer of more than some thousand digits.
        for told in (TellError, *self.classes()):
            self.assertEqual(told(-(1 << 20000)).value, -(1 << 20000))
            self.assertEqual(told(value=1 << 20000).value, 1 << 20000)

    def test_objects_apart(self):
        one = TellError(1)
        other = TellError(value=2)
        self.assertEqual((one.value, other.value), (1, 2))


if __name__ == "__main__":
    unittest.main()

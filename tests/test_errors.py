"""The interface's stage 1: the errors."""

import unittest

from tearwords import errors

NAMES = [
    "NoMachine", "NoRule", "NoWord", "NoStretch", "NoReading", "NoSide", "NoCount", "NoHint", "NoCheck", "NoKind",
    "NoDesk", "NoDeed", "NoUndo", "NoThings", "NotThere", "Twice", "Rivals", "TooGreat",
]


class ErrorsTest(unittest.TestCase):
    def test_tear_error_derives_from_value_error_directly(self):
        self.assertEqual(errors.TearError.__bases__, (ValueError,))
        self.assertEqual(errors.TearError.__module__, "tearwords.errors")

    def test_each_error_derives_from_tear_error_directly(self):
        for name in NAMES:
            made = getattr(errors, name)
            self.assertEqual(made.__bases__, (errors.TearError,), name)
            self.assertEqual(made.__module__, "tearwords.errors", name)
            self.assertEqual(made.__name__, name)

    def test_the_classes_are_different_ones(self):
        self.assertEqual(len({getattr(errors, name) for name in NAMES}), 18)

    def test_str_tells_the_text(self):
        for name in NAMES + ["TearError"]:
            for text in ("", "why", "a b", "~" * 1000):
                self.assertEqual(str(getattr(errors, name)(text)), text, name)

    def test_each_is_caught_as_tear_error(self):
        for name in NAMES:
            with self.assertRaises(errors.TearError) as caught:
                raise getattr(errors, name)("why")
            self.assertEqual(str(caught.exception), "why")


if __name__ == "__main__":
    unittest.main()

"""[4]: the errors, and what they keep."""

import unittest

from boundorvoid import errors

PLACED = ("InvalidPact", "InvalidText", "InvalidFamily", "InvalidMoment", "InvalidRun", "InvalidAsk", "InvalidRow",
          "InvalidOffices")
WORDED = ("InvalidSize", "Refused")


class ErrorsTest(unittest.TestCase):
    def test_direct_subclasses(self):
        self.assertEqual(errors.PactError.__bases__, (Exception,))
        for name in PLACED + WORDED + ("InvalidCommand",):
            self.assertEqual(getattr(errors, name).__bases__, (errors.PactError,), name)
        self.assertEqual(errors.NoName.__bases__, (KeyError,))

    def test_there_are_thirteen(self):
        found = [name for name, value in vars(errors).items() if isinstance(value, type)]
        self.assertEqual(len(found), 13)

    def test_arguments_are_kept_as_they_are(self):
        kept = [1, ["x"]]
        for name in PLACED:
            made = getattr(errors, name)
            self.assertIs(made(kept).at, kept)
            self.assertIs(made(at=kept).at, kept)
        for name in WORDED:
            made = getattr(errors, name)
            self.assertIs(made(kept).word, kept)
            self.assertIs(made(word=kept).word, kept)
        self.assertIs(errors.NoName(kept).name, kept)
        self.assertIs(errors.NoName(name=kept).name, kept)
        self.assertEqual(vars(errors.InvalidCommand()), {})

    def test_they_can_be_raised_and_caught(self):
        with self.assertRaises(errors.PactError) as caught:
            raise errors.InvalidPact("hands")
        self.assertEqual(caught.exception.at, "hands")
        with self.assertRaises(KeyError):
            raise errors.NoName("x")
        self.assertFalse(issubclass(errors.NoName, errors.PactError))


if __name__ == "__main__":
    unittest.main()

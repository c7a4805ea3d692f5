"""Point 4: all errors, their bases, and what each keeps."""

import unittest

from waitworks import errors

KEPT = {
    "InvalidRow": "word", "InvalidModule": "word", "InvalidHouse": "at", "InvalidText": "at", "NeverGoes": "ring",
    "InvalidArrivals": "at", "InvalidWishes": "at", "InvalidContract": None, "InvalidTally": "word",
    "InvalidLog": "at", "InvalidMenu": "at", "InvalidChoice": None, "InvalidGoals": "at", "InvalidCommand": None,
    "Refused": "at",
}


class ErrorsTest(unittest.TestCase):
    def test_bases(self):
        self.assertEqual(errors.WaitError.__bases__, (ValueError,))
        for name in KEPT:
            self.assertEqual(getattr(errors, name).__bases__, (errors.WaitError,), name)
        self.assertEqual(errors.NoPlace.__bases__, (KeyError,))

    def test_keeps_the_very_thing(self):
        for name, word in [*KEPT.items(), ("NoPlace", "name")]:
            made = getattr(errors, name)
            if word is None:
                self.assertIsInstance(made(), made)
                continue
            for thing in ("first", 0, None, [1, [2]], {"a": 1}, object()):
                self.assertIs(getattr(made(thing), word), thing, name)
                self.assertIs(getattr(made(**{word: thing}), word), thing, name)

    def test_is_caught_by_its_bases(self):
        for name, word in KEPT.items():
            with self.assertRaises(ValueError):
                raise getattr(errors, name)(*([] if word is None else [0]))
        with self.assertRaises(KeyError):
            raise errors.NoPlace("x")
        self.assertFalse(issubclass(errors.NoPlace, ValueError))
        self.assertFalse(issubclass(errors.WaitError, KeyError))


if __name__ == "__main__":
    unittest.main()

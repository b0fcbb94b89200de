"""0.3: the classes of the errors, their fields and their bases."""

import copy
import unittest

from flatrounds import errors

FIELDS = {
    "BadProgram": ("part",), "NoPlace": (), "NoStatement": (), "NoNames": (), "NoInput": (), "NoMoment": (),
    "NoTime": (), "NoName": (), "NoNumber": (), "NoDeeds": (), "NoPush": (), "OtherNames": (), "NoNumbers": (),
    "BadTable": ("part", "index"), "NoCell": (), "NoStretch": (), "TooMany": ("most",), "OtherShape": (),
    "NoBounds": (), "NoIndex": (), "NotOne": (), "NotUnlike": (), "NoIndexes": (), "BadCode": ("part",),
    "NotCode": ("index",), "BadAnswer": ("at",), "Falling": ("at",), "NoInputs": (), "BadText": ("line",),
    "NoLine": (), "Unknown": ("name",), "NothingDone": (),
}


class TestErrors(unittest.TestCase):
    def test_bases(self):
        self.assertEqual(errors.RoundError.__bases__, (ValueError,))
        for name in FIELDS:
            with self.subTest(name):
                self.assertEqual(getattr(errors, name).__bases__, (errors.RoundError,))

    def test_no_other_error_is_defined(self):
        found = [name for name, thing in vars(errors).items() if isinstance(thing, type)]
        self.assertEqual(sorted(found), sorted(["RoundError", *FIELDS]))
        for name in found:
            self.assertEqual(getattr(errors, name).__module__, "flatrounds.errors")

    def test_made_with_just_the_fields_and_keep_them(self):
        for name, fields in FIELDS.items():
            with self.subTest(name):
                kept = [object() for _ in fields]
                made = getattr(errors, name)(*kept)
                for field, thing in zip(fields, kept):
                    self.assertIs(getattr(made, field), thing)
                self.assertEqual(sorted(vars(made)), sorted(fields))

    def test_made_with_no_more_and_no_less(self):
        for name, fields in FIELDS.items():
            with self.subTest(name):
                made = getattr(errors, name)
                with self.assertRaises(TypeError):
                    made(*fields, "further")
                if fields:
                    with self.assertRaises(TypeError):
                        made(*fields[1:])

    def test_fields_keep_any_object_as_passed(self):
        for thing in (None, True, [], {"a": [1]}, (1, (2,)), "", b"x", 10 ** 40, errors.NoPlace()):
            self.assertIs(errors.BadProgram(thing).part, thing)
            self.assertIs(errors.Unknown(thing).name, thing)
            both = errors.BadTable(thing, 7)
            self.assertIs(both.part, thing)
            self.assertEqual(both.index, 7)

    def test_raised_caught_told_and_copied(self):
        for name, fields in FIELDS.items():
            with self.subTest(name):
                made = getattr(errors, name)(*fields)
                for base in (ValueError, errors.RoundError, getattr(errors, name)):
                    with self.assertRaises(base):
                        raise made
                self.assertIsInstance(str(made), str)
                self.assertIsInstance(repr(made), str)
                twin = copy.copy(made)
                self.assertIs(twin.__class__, made.__class__)
                self.assertEqual(vars(twin), vars(made))


if __name__ == "__main__":
    unittest.main()

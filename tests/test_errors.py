import inspect
import unittest

from moststream import errors
from moststream.errors import StreamError
from tests.drawn import odd_things

FIELDS = {
    "BadWeb": "part", "NoHouse": None, "NoTie": None, "NoStream": None, "NoSide": None, "NotSpring": None,
    "NoWord": None, "NoGlass": None, "NoMove": None, "NoChoices": "index", "BadRecord": "index",
    "NoMoment": None, "NoNumber": None, "NoState": None, "NoParcel": None, "NoRow": None, "BadRow": "place",
    "NoCut": None, "NoBlocks": None, "NoDeed": None, "NoPast": None, "NoDisk": None, "OtherHouse": None,
    "BadDeeds": "index", "BadText": "line", "BadMoves": "index", "NoLine": None, "NoName": "name",
}


class Errors(unittest.TestCase):
    def test_there_are_just_these(self):
        found = [name for name, thing in vars(errors).items() if inspect.isclass(thing)]
        self.assertEqual(sorted(found), sorted([*FIELDS, "StreamError"]))
        self.assertEqual(len(FIELDS), 28)

    def test_all_derive_directly(self):
        self.assertEqual(StreamError.__bases__, (ValueError,))
        for name in FIELDS:
            with self.subTest(name):
                self.assertEqual(getattr(errors, name).__bases__, (StreamError,))
                self.assertEqual(getattr(errors, name).__module__, "moststream.errors")

    def test_fields_are_kept_as_passed(self):
        for name, field in FIELDS.items():
            for thing in odd_things() if field else ():
                with self.subTest(name, thing=repr(thing)[:60]):
                    error = getattr(errors, name)(thing)
                    self.assertIs(getattr(error, field), thing)
                    self.assertEqual(list(vars(error)), [field])

    def test_fields_that_are_lists_are_not_copied(self):
        kept = [1]
        error = errors.NoName(kept)
        kept.append(2)
        self.assertIs(error.name, kept)

    def test_made_with_just_their_fields(self):
        for name, field in FIELDS.items():
            with self.subTest(name):
                error = getattr(errors, name)
                self.assertIsInstance(error(*[1] if field else []), error)
                for passed in ((1, 2), () if field else (1,)):
                    with self.assertRaises(TypeError):
                        error(*passed)

    def test_can_be_raised_and_caught_as_value_errors(self):
        for name, field in FIELDS.items():
            with self.subTest(name), self.assertRaises(ValueError):
                raise getattr(errors, name)(*["x"] if field else [])

    def test_an_error_is_equal_to_nothing_else(self):
        self.assertNotEqual(errors.NoHouse(), errors.NoTie())
        self.assertNotEqual(errors.BadWeb("many"), "many")
        self.assertNotEqual(errors.BadWeb(1), errors.BadRow(1))


if __name__ == "__main__":
    unittest.main()

"""Point 3: the classes of errors."""

import unittest

from roomyway import errors

NAMES = [
    "InvalidArgument",
    "NotFree",
    "UnknownThing",
    "DuplicateThing",
    "TooLarge",
    "NothingToUndo",
    "BadText",
]


class ErrorClasses(unittest.TestCase):

    def test_base_derives_directly_from_value_error(self):
        self.assertEqual(errors.RoomError.__bases__, (ValueError,))
        self.assertEqual(errors.RoomError.__module__, "roomyway.errors")

    def test_each_derives_directly_from_the_base(self):
        for name in NAMES:
            with self.subTest(name=name):
                kind = getattr(errors, name)
                self.assertEqual(kind.__bases__, (errors.RoomError,))
                self.assertEqual(kind.__name__, name)
                self.assertEqual(kind.__module__, "roomyway.errors")

    def test_the_classes_differ(self):
        kinds = [getattr(errors, name) for name in NAMES]
        self.assertEqual(len(set(kinds)), len(NAMES))

    def test_each_can_be_raised_and_caught_as_its_bases(self):
        for name in NAMES:
            with self.subTest(name=name):
                kind = getattr(errors, name)
                with self.assertRaises(kind):
                    raise kind("why")
                with self.assertRaises(errors.RoomError):
                    raise kind("why")
                with self.assertRaises(ValueError):
                    raise kind()


if __name__ == "__main__":
    unittest.main()

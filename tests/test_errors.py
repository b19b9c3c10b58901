"""Point 5: the errors."""

import unittest

from helpers import GREAT
from segmentfs import errors
from segmentfs.errors import InvalidImage, SegmentError

NAMES = (
    "InvalidFormat", "NoCheckpoint", "NotFound", "AlreadyExists", "NotDirectory", "IsDirectory", "NotEmpty",
    "InvalidPath", "InvalidMove", "NotLink", "NameTooLong", "LinkLoop", "TooManyNames", "NotAllowed",
    "FileTooLarge", "NoRoom", "BadHandle", "TooManyOpen", "Busy", "NoTransaction", "TransactionTooLarge",
    "OutOfRange", "InvalidName",
)


class ErrorsTest(unittest.TestCase):
    def test_base_class_derives_from_value_error(self):
        self.assertEqual(SegmentError.__bases__, (ValueError,))

    def test_each_error_derives_directly_from_the_base_class(self):
        for name in NAMES + ("InvalidImage",):
            self.assertEqual(getattr(errors, name).__bases__, (SegmentError,), name)

    def test_each_error_is_a_class_of_its_own_in_this_module(self):
        classes = [getattr(errors, name) for name in NAMES + ("InvalidImage", "SegmentError")]
        self.assertEqual(len(set(classes)), 25)
        for name in NAMES + ("InvalidImage", "SegmentError"):
            self.assertEqual(getattr(errors, name).__name__, name)
            self.assertEqual(getattr(errors, name).__module__, "segmentfs.errors")

    def test_errors_are_created_with_a_text(self):
        for name in NAMES + ("SegmentError",):
            self.assertEqual(str(getattr(errors, name)("a text")), "a text")

    def test_one_error_is_not_caught_as_another(self):
        for name in NAMES:
            for other in NAMES:
                same = issubclass(getattr(errors, name), getattr(errors, other))
                self.assertEqual(same, name == other)

    def test_invalid_image_has_three_fields(self):
        error = InvalidImage("log", "no whole checkpoint", 7)
        self.assertEqual((error.part, error.fault, error.number), ("log", "no whole checkpoint", 7))

    def test_invalid_image_with_a_great_number(self):
        error = InvalidImage("present", "octets behind the end", GREAT)
        self.assertEqual((error.part, error.fault), ("present", "octets behind the end"))
        self.assertTrue(error.number == GREAT)

    def test_invalid_image_is_raised_and_caught_with_its_fields(self):
        with self.assertRaises(SegmentError) as caught:
            raise InvalidImage("image", "not an image", 0)
        error = caught.exception
        self.assertEqual((error.part, error.fault, error.number), ("image", "not an image", 0))
        self.assertIsInstance(error, ValueError)


if __name__ == "__main__":
    unittest.main()

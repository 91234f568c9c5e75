"""The errors of the interface's stage 1."""

import unittest

from boundonce import errors

NAMES = (
    "InvalidName InvalidCatalog InvalidDeed InvalidStatement InvalidPath InvalidText InvalidEntry InvalidPart"
    " InvalidLine Unknown Taken Unfit NoRight Ring Ambiguous OnCall Mismatch DuplicateName UnknownName Busy NotBegun"
).split()


class ErrorsTest(unittest.TestCase):
    def test_bound_error(self):
        self.assertEqual(errors.BoundError.__bases__, (ValueError,))
        self.assertEqual(str(errors.BoundError("why")), "why")

    def test_twenty_one_direct_subclasses(self):
        self.assertEqual(len(NAMES), 21)
        self.assertEqual({one.__name__ for one in errors.BoundError.__subclasses__()}, set(NAMES))
        for name in NAMES:
            self.assertEqual(getattr(errors, name).__bases__, (errors.BoundError,), name)
            self.assertEqual(getattr(errors, name).__module__, "boundonce.errors", name)

    def test_each_is_raised_with_a_string_and_caught_by_name_alone(self):
        for name in NAMES:
            one = getattr(errors, name)
            with self.assertRaises(ValueError) as caught:
                raise one("why")
            self.assertEqual(str(caught.exception), "why")
            self.assertIsInstance(caught.exception, errors.BoundError)
            for other in NAMES:
                self.assertEqual(isinstance(caught.exception, getattr(errors, other)), other == name)

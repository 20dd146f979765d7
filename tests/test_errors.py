"""Point 11: the classes of the refusals."""

import unittest

from bucketfall import errors
from bucketfall.errors import Bare, FallError, Late, NoBase, NoNumber

KINDS = (NoBase, NoNumber, Late, Bare)


class Classes(unittest.TestCase):
    def test_any_refusal_is_a_value_error(self):
        self.assertTrue(issubclass(FallError, ValueError))
        self.assertEqual(FallError.__bases__, (ValueError,))

    def test_each_kind_stands_under_fall_error(self):
        for kind in KINDS:
            with self.subTest(kind=kind):
                self.assertEqual(kind.__bases__, (FallError,))

    def test_none_stands_under_another_one(self):
        for kind in KINDS:
            for other in KINDS:
                with self.subTest(kind=kind, other=other):
                    self.assertEqual(issubclass(kind, other), kind is other)

    def test_each_is_defined_in_its_file_under_its_name(self):
        for name in ("FallError", "NoBase", "NoNumber", "Late", "Bare"):
            with self.subTest(name=name):
                kind = getattr(errors, name)
                self.assertEqual(kind.__name__, name)
                self.assertEqual(kind.__module__, "bucketfall.errors")

    def test_each_can_be_raised_and_caught_as_any_refusal(self):
        for kind in KINDS:
            with self.subTest(kind=kind):
                with self.assertRaises(FallError) as caught:
                    raise kind("why")
                self.assertIs(caught.exception.__class__, kind)


if __name__ == "__main__":
    unittest.main()

"""The errors of the interface."""

import unittest

from redpaint import errors


class TheErrors(unittest.TestCase):

    def test_what_derives_from_what(self):
        self.assertEqual(errors.TreeError.__bases__, (ValueError,))
        for kind in (errors.NoKey, errors.NoPlace, errors.NotApart, errors.NotRising):
            self.assertEqual(kind.__bases__, (errors.TreeError,))
            self.assertEqual(kind.__module__, "redpaint.errors")

    def test_each_is_taken_by_those_above(self):
        for kind in (errors.NoKey, errors.NoPlace, errors.NotApart, errors.NotRising):
            for above in (kind, errors.TreeError, ValueError):
                with self.assertRaises(above):
                    raise kind("why")

    def test_none_takes_another(self):
        kinds = (errors.NoKey, errors.NoPlace, errors.NotApart, errors.NotRising)
        for kind in kinds:
            for other in kinds:
                self.assertEqual(issubclass(kind, other), kind is other)


if __name__ == "__main__":
    unittest.main()

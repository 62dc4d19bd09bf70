"""flatstrip/errors.py: the seven classes."""

import unittest

from flatstrip import errors

RIGHT_UNDER = ("BadStrip", "BadOrder", "NoFold", "NothingDone", "TooMany", "BadText")


class TheClasses(unittest.TestCase):
    def test_fold_error_is_right_under_value_error(self):
        self.assertEqual(errors.FoldError.__bases__, (ValueError,))

    def test_each_of_the_six_is_right_under_fold_error(self):
        for name in RIGHT_UNDER:
            with self.subTest(name=name):
                self.assertEqual(getattr(errors, name).__bases__, (errors.FoldError,))

    def test_none_of_the_six_is_under_another_one(self):
        for name in RIGHT_UNDER:
            for other in RIGHT_UNDER:
                if name != other:
                    with self.subTest(name=name, other=other):
                        self.assertFalse(issubclass(getattr(errors, name), getattr(errors, other)))

    def test_each_is_defined_here_under_its_name(self):
        for name in ("FoldError",) + RIGHT_UNDER:
            with self.subTest(name=name):
                kind = getattr(errors, name)
                self.assertEqual((kind.__module__, kind.__name__), ("flatstrip.errors", name))

    def test_each_can_be_raised_and_caught_as_a_refusal(self):
        for name in RIGHT_UNDER:
            with self.subTest(name=name):
                with self.assertRaises(errors.FoldError):
                    raise getattr(errors, name)("why")


if __name__ == "__main__":
    unittest.main()

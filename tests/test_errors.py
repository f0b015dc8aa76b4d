"""The classes of errors in the interface."""

import unittest

from routevan import errors

NAMES = ("BadRoad", "OffRoad", "BadTime", "TooMany", "BadOrder", "Missed", "NoDay")


def raised(name):
    raise getattr(errors, name)("why")


class Errors(unittest.TestCase):

    def test_each_class_is_defined_here_by_its_own_name(self):
        for name in ("RouteError",) + NAMES:
            kind = getattr(errors, name)
            self.assertIsInstance(kind, type)
            self.assertEqual((kind.__name__, kind.__module__), (name, "routevan.errors"))

    def test_route_error_is_under_value_error_and_under_none_of_the_others(self):
        self.assertEqual(errors.RouteError.__bases__, (ValueError,))

    def test_each_other_one_is_right_under_route_error(self):
        for name in NAMES:
            self.assertEqual(getattr(errors, name).__bases__, (errors.RouteError,), name)

    def test_each_is_caught_by_its_own_name_as_route_error_and_as_value_error(self):
        for name in NAMES:
            for kind in (getattr(errors, name), errors.RouteError, ValueError):
                with self.assertRaises(kind):
                    raised(name)

    def test_none_is_another_one(self):
        for name in NAMES:
            for other in NAMES:
                same = issubclass(getattr(errors, name), getattr(errors, other))
                self.assertEqual(same, name == other, (name, other))

    def test_route_error_itself_is_none_of_the_others(self):
        for name in NAMES:
            self.assertFalse(issubclass(errors.RouteError, getattr(errors, name)))


if __name__ == "__main__":
    unittest.main()

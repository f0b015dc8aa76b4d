"""The names, arguments and fields that the interface lists, in their own files."""

import inspect
import unittest

from routevan import days, roads

FUNCTIONS = (
    (roads, "apart", ["road", "one", "other"]),
    (roads, "way", ["road", "one", "other"]),
    (roads, "moved", ["road", "place", "by"]),
    (days, "timetable", ["day", "order"]),
    (days, "ends", ["day", "order"]),
)


class Interface(unittest.TestCase):

    def test_functions_are_defined_in_their_files_with_their_arguments(self):
        for module, name, arguments in FUNCTIONS:
            function = getattr(module, name)
            self.assertTrue(inspect.isfunction(function), name)
            self.assertEqual(function.__module__, module.__name__)
            self.assertEqual(list(inspect.signature(function).parameters), arguments)

    def test_day_is_a_class_of_its_file_with_its_arguments(self):
        self.assertTrue(inspect.isclass(days.Day))
        self.assertEqual(days.Day.__module__, "routevan.days")
        arguments = list(inspect.signature(days.Day).parameters)
        self.assertEqual(arguments, ["road", "home", "start", "stops"])
        self.assertIn("__init__", vars(days.Day))

    def test_arguments_may_be_given_by_their_names(self):
        ring = ("ring", 9)
        day = days.Day(road=ring, home=1, start=2, stops=[(3, 4, 5, 6)])
        self.assertEqual(days.timetable(day=day, order=[0]), [(4, 4, 10)])
        self.assertEqual(days.ends(day=day, order=[0]), 12)
        self.assertEqual(roads.apart(road=ring, one=1, other=8), 2)
        self.assertEqual(roads.way(road=ring, one=1, other=8), -2)
        self.assertEqual(roads.moved(road=ring, place=1, by=-2), 8)


if __name__ == "__main__":
    unittest.main()

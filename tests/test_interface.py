"""The names, arguments and fields that the interface lists, in their own files."""

import inspect
import unittest

from routevan import days, notes, roads, tables, tours

FUNCTIONS = (
    (roads, "apart", ["road", "one", "other"]),
    (roads, "way", ["road", "one", "other"]),
    (roads, "moved", ["road", "place", "by"]),
    (days, "timetable", ["day", "order"]),
    (days, "ends", ["day", "order"]),
    (tables, "table", ["day", "begun"]),
    (tables, "least", ["day", "begun"]),
    (tours, "best", ["day"]),
    (tours, "clash", ["day"]),
    (tours, "told", ["day"]),
    (notes, "written", ["day"]),
    (notes, "read", ["text"]),
)


class Interface(unittest.TestCase):

    def test_functions_are_defined_in_their_files_with_their_arguments(self):
        for module, name, arguments in FUNCTIONS:
            function = getattr(module, name)
            self.assertTrue(inspect.isfunction(function), name)
            self.assertEqual(function.__module__, module.__name__)
            self.assertEqual(list(inspect.signature(function).parameters), arguments)

    def test_day_is_a_class_of_its_file_with_its_arguments(self):
        self.assertTrue(inspect.isclass(days.Day))
        self.assertEqual(days.Day.__module__, "routevan.days")
        arguments = list(inspect.signature(days.Day).parameters)
        self.assertEqual(arguments, ["road", "home", "start", "stops"])
        self.assertIn("__init__", vars(days.Day))

    def test_arguments_may_be_given_by_their_names(self):
        ring = ("ring", 9)
        day = days.Day(road=ring, home=1, start=2, stops=[(3, 4, 5, 6)])
        self.assertEqual(days.timetable(day=day, order=[0]), [(4, 4, 10)])
        self.assertEqual(days.ends(day=day, order=[0]), 12)
        self.assertEqual(roads.apart(road=ring, one=1, other=8), 2)
        self.assertEqual(roads.way(road=ring, one=1, other=8), -2)
        self.assertEqual(roads.moved(road=ring, place=1, by=-2), 8)
        self.assertEqual(tables.table(day=day, begun=[]), {((0,), 0): (10, None)})
        self.assertEqual(tables.least(day=day, begun=[0]), 12)
        self.assertEqual(tours.best(day=day), [0])
        self.assertIsNone(tours.clash(day=day))
        self.assertEqual(tours.told(day=day), ("tour", [0], 12))
        text = "ring 9\nhome 1 at 2\nstop 3 from 4 to 5 for 6\n"
        self.assertEqual(notes.written(day=day), text)
        self.assertIs(type(notes.read(text=text)), days.Day)


if __name__ == "__main__":
    unittest.main()

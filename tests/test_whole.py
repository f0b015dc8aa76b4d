"""Point 1, over the whole program: whatever is asked, nothing hangs on what was asked or given before."""

import unittest

from routevan.days import Day, ends, timetable
from routevan.notes import read, written
from routevan.roads import apart, moved, way
from routevan.tables import least, table
from routevan.tours import best, clash, told
from tests.all_orders import made_days, numbers, state, table_of, told_of
from tests.refusals import refusal

ASKED_ALONE = (best, clash, told, written)
ASKED_OF_ORDERS = (timetable, ends, table, least)
GIVEN = ([], [0], [1, 0], [2, 1], [3, 0, 2, 1], [0, 1, 2, 3], [1, 1], [4], [-1])


def remade(day):
    return Day(day.road, day.home, day.start, list(day.stops))


def asked(ask, *given):
    """What is told, or by which error it is refused."""
    due = refusal(ask, *given)
    return due if due is not None else ask(*given)


def answers(day):
    """All that can be asked of a day, each thing once."""
    found = [asked(ask, day) for ask in ASKED_ALONE]
    return found + [asked(ask, day, list(order)) for order in GIVEN for ask in ASKED_OF_ORDERS]


def spoil(value):
    """Change all that can be changed in what was given out."""
    if isinstance(value, tuple):
        for part in value:
            spoil(part)
    if isinstance(value, list):
        value.reverse()
        value.append(99)
    if isinstance(value, dict):
        value.clear()
        value[((99,), 99)] = (99, None)


def kinds(value):
    """The kinds of all that stands in a value."""
    if isinstance(value, dict):
        return {dict} | kinds(list(value)) | kinds(list(value.values()))
    if isinstance(value, (list, tuple)):
        return {type(value)}.union(*[kinds(part) for part in value])
    return {type(value)}


def some_days():
    for stops in (0, 1, 3, 4, 5):
        yield from made_days(6, stops, stops + 3)
    yield from made_days(4, 4, 5, alike=True)


class Whole(unittest.TestCase):

    def test_the_same_day_asked_again_answers_as_a_day_made_anew(self):
        for day in some_days():
            first = answers(day)
            self.assertEqual(answers(day), first)
            self.assertEqual(answers(remade(day)), first)
            self.assertEqual(answers(read(written(day))), first)

    def test_in_any_turn_with_what_was_given_out_changed_between(self):
        mixed = numbers(11)
        for day in some_days():
            before = state(day)
            for _ in range(60):
                ask, given = self.something(mixed)
                expected = asked(ask, remade(day), *[list(order) for order in given])
                value = asked(ask, day, *given)
                self.assertEqual(value, expected)
                spoil(value)
                spoil(given)
                self.assertEqual(state(day), before)

    def something(self, mixed):
        at = next(mixed) % (len(ASKED_ALONE) + 2 * len(ASKED_OF_ORDERS))
        if at < len(ASKED_ALONE):
            return ASKED_ALONE[at], ()
        return ASKED_OF_ORDERS[at % len(ASKED_OF_ORDERS)], (list(GIVEN[next(mixed) % len(GIVEN)]),)

    def test_what_was_told_stays_as_it_was(self):
        for day in some_days():
            first = answers(day)
            kept = answers(remade(day))
            for value in answers(day):
                spoil(value)
            answers(day)
            self.assertEqual(first, kept)

    def test_two_days_of_the_same_stops_do_not_touch_each_other(self):
        for day in some_days():
            stops = list(day.stops)
            one = Day(day.road, day.home, day.start, stops)
            other = Day(day.road, day.home, day.start, stops)
            expected = answers(day)
            one.stops.clear()
            answers(one)
            self.assertEqual(answers(other), expected)
            self.assertEqual(stops, day.stops)

    def test_days_of_the_same_stops_on_other_roads_are_asked_by_turns(self):
        stops = [(6, 0, 99, 1), (1, 0, 99, 1), (3, 20, 21, 1)]
        days = [Day(road, home, start, stops) for road in (("line", 8), ("ring", 8), ("ring", 7))
                for home in (0, 5) for start in (0, 12, 19)]
        for _ in range(2):
            for day in days:
                self.assertEqual(told(day), told_of(day))
                self.assertEqual(table(day, [1]), table_of(day, [1]))

    def test_a_list_that_was_handed_in_is_changed_behind(self):
        stops = [(8, 110, 120, 4), (2, 0, 130, 6), (20, 0, 200, 0)]
        day = Day(("line", 20), 5, 100, stops)
        expected = answers(day)
        stops.reverse()
        stops.append((0, 0, 0, 0))
        self.assertEqual(answers(day), expected)
        stops.clear()
        self.assertEqual(answers(day), expected)
        self.assertEqual(told(day), ("tour", [1, 0, 2], 146))

    def test_all_numbers_are_whole(self):
        allowed = {list, tuple, dict, str, int, type(None), type}
        for day in some_days():
            for value in answers(day):
                self.assertLessEqual(kinds(value), allowed)
        for road in (("line", 9), ("ring", 9)):
            found = (apart(road, 1, 8), way(road, 1, 8), moved(road, 8, -3))
            self.assertEqual(kinds(found), {tuple, int})


if __name__ == "__main__":
    unittest.main()

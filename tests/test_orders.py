"""Points 6, 8 and 9: which orders are refused, the timetable, and when an order ends."""

import unittest
from itertools import permutations

from routevan.days import Day, ends, timetable
from routevan.errors import BadOrder, Missed
from tests.all_orders import state
from tests.refusals import refusal

FAR = 10 ** 9
LATE = 10 ** 12
ENDLESS = 10 ** 5000


def step(road, place, goal):
    """One step nearer to the goal: of the neighbours, the one with the shorter rest."""
    word, length = road
    if word == "line":
        return place + 1 if goal > place else place - 1
    up, rest = place, 0
    while up != goal:
        up, rest = (up + 1) % length, rest + 1
    return (place + 1) % length if 2 * rest <= length else (place - 1) % length


def driven(day, order):
    """The van's day, moment by moment: the rows and the end, None where a stop is missed."""
    now, place, rows = day.start, day.home, []
    for number in order:
        goal, opens, closes, stay = day.stops[number]
        while place != goal:
            place, now = step(day.road, place, goal), now + 1
        comes = now
        while now < opens:
            now += 1
        if now > closes:
            return None
        rows.append((comes, now, now + stay))
        now += stay
    while place != day.home:
        place, now = step(day.road, place, day.home), now + 1
    return rows, now


class Orders(unittest.TestCase):

    def check(self, day, order, rows, end):
        self.assertEqual(timetable(day, order), rows)
        self.assertEqual(ends(day, order), end)

    def check_refused(self, day, order, due):
        self.assertIs(refusal(timetable, day, order), due, order)
        self.assertIs(refusal(ends, day, order), due, order)


class WithoutStops(Orders):

    def test_the_order_without_stops_ends_at_the_start(self):
        for start in (0, 7, LATE):
            self.check(Day(("line", 9), 4, start, []), [], [], start)
            self.check(Day(("ring", 9), 4, start, [(0, 0, 0, 5)]), [], [], start)


class OneStop(Orders):

    def test_a_van_that_comes_early_waits(self):
        day = Day(("line", 20), 5, 100, [(8, 110, 120, 4)])
        self.check(day, [0], [(103, 110, 114)], 117)

    def test_a_van_that_comes_one_ahead_of_the_opening(self):
        day = Day(("line", 20), 5, 100, [(8, 104, 120, 4)])
        self.check(day, [0], [(103, 104, 108)], 111)

    def test_a_van_that_comes_just_as_the_stop_opens(self):
        day = Day(("line", 20), 5, 100, [(8, 103, 120, 4)])
        self.check(day, [0], [(103, 103, 107)], 110)

    def test_a_van_that_comes_between(self):
        day = Day(("line", 20), 5, 100, [(8, 90, 120, 4)])
        self.check(day, [0], [(103, 103, 107)], 110)

    def test_a_van_that_comes_just_as_the_stop_closes(self):
        day = Day(("line", 20), 5, 100, [(8, 90, 103, 4)])
        self.check(day, [0], [(103, 103, 107)], 110)

    def test_a_van_that_comes_too_late(self):
        for closes in (102, 95, 90):
            self.check_refused(Day(("line", 20), 5, 100, [(8, 90, closes, 4)]), [0], Missed)

    def test_a_stop_that_is_open_for_one_moment(self):
        self.check(Day(("line", 20), 5, 100, [(8, 103, 103, 4)]), [0], [(103, 103, 107)], 110)
        self.check(Day(("line", 20), 5, 100, [(8, 150, 150, 4)]), [0], [(103, 150, 154)], 157)
        self.check_refused(Day(("line", 20), 5, 100, [(8, 102, 102, 4)]), [0], Missed)

    def test_a_stop_may_be_left_when_it_has_closed(self):
        day = Day(("line", 20), 5, 100, [(2, 90, 103, 1000)])
        self.check(day, [0], [(103, 103, 1103)], 1106)

    def test_a_stop_without_a_stay(self):
        self.check(Day(("line", 20), 5, 100, [(2, 0, 103, 0)]), [0], [(103, 103, 103)], 106)

    def test_a_stop_at_home(self):
        self.check(Day(("ring", 20), 5, 100, [(5, 0, 100, 6)]), [0], [(100, 100, 106)], 106)
        self.check_refused(Day(("ring", 20), 5, 100, [(5, 0, 99, 6)]), [0], Missed)


class SomeAndAll(Orders):

    def setUp(self):
        self.day = Day(("line", 20), 5, 100, [(8, 110, 120, 4), (2, 0, 130, 6), (20, 0, 200, 0)])

    def test_all_stops(self):
        self.check(self.day, [0, 1, 2], [(103, 110, 114), (120, 120, 126), (144, 144, 144)], 159)

    def test_some_stops(self):
        self.check(self.day, [1], [(103, 103, 109)], 112)
        self.check(self.day, [1, 0], [(103, 103, 109), (115, 115, 119)], 122)
        self.check(self.day, [2], [(115, 115, 115)], 130)
        self.check(self.day, [0, 2], [(103, 110, 114), (126, 126, 126)], 141)

    def test_missed_at_each_place_of_the_order(self):
        self.check_refused(self.day, [2, 0], Missed)
        self.check_refused(self.day, [0, 2, 1], Missed)
        self.check_refused(self.day, [2, 0, 1], Missed)
        late = Day(("line", 20), 5, 121, self.day.stops)
        self.check_refused(late, [0, 1, 2], Missed)

    def test_the_van_goes_round_a_ring_by_the_shortest_way(self):
        day = Day(("ring", 10), 1, 0, [(9, 0, 50, 1), (4, 0, 50, 1), (7, 0, 50, 1)])
        self.check(day, [0, 1, 2], [(2, 2, 3), (8, 8, 9), (12, 12, 13)], 17)
        self.check(day, [2, 0, 1], [(4, 4, 5), (7, 7, 8), (13, 13, 14)], 17)

    def test_several_stops_at_one_place_and_all_alike(self):
        day = Day(("ring", 9), 0, 0, [(4, 0, 10, 3)] * 3)
        for order in permutations(range(3)):
            self.check(day, list(order), [(4, 4, 7), (7, 7, 10), (10, 10, 13)], 17)
        self.check_refused(Day(("ring", 9), 0, 0, [(4, 0, 9, 3)] * 3), [2, 0, 1], Missed)

    def test_seven_stops(self):
        day = Day(("line", 7), 0, 10, [(at + 1, 0, 100, at) for at in range(7)])
        self.check(day, [6, 5, 4, 3, 2, 1, 0], [
            (17, 17, 23), (24, 24, 29), (30, 30, 34), (35, 35, 38), (39, 39, 41), (42, 42, 43), (44, 44, 44),
        ], 45)

    def test_times_beyond_the_limit_of_a_day(self):
        day = Day(("line", FAR), 0, LATE, [(0, 0, LATE, LATE), (FAR, LATE, LATE, 1)])
        self.check(day, [0], [(LATE, LATE, 2 * LATE)], 2 * LATE)
        self.check_refused(day, [1], Missed)
        self.check_refused(day, [0, 1], Missed)
        early = Day(("line", FAR), 0, 0, day.stops)
        self.check(early, [1], [(FAR, LATE, LATE + 1)], LATE + 1 + FAR)

    def test_each_order_as_it_is_driven_moment_by_moment(self):
        stops = [(0, 3, 9, 2), (4, 0, 12, 1), (6, 8, 8, 0), (4, 10, 25, 5)]
        seen = {"driven": 0, "missed": 0}
        for road in (("line", 6), ("ring", 7), ("ring", 8)):
            for home in range(7):
                for start in (0, 2, 7):
                    day = Day(road, home, start, stops)
                    self.compare(day, seen)
        self.assertTrue(min(seen.values()) > 500, seen)

    def compare(self, day, seen):
        for many in range(5):
            for order in permutations(range(4), many):
                told = driven(day, order)
                if told is None:
                    seen["missed"] += 1
                    self.check_refused(day, list(order), Missed)
                else:
                    seen["driven"] += 1
                    self.check(day, list(order), *told)


class BadOrders(Orders):

    def setUp(self):
        self.day = Day(("line", 20), 5, 100, [(8, 0, 500, 4), (2, 0, 500, 6), (20, 0, 500, 0)])

    def test_a_number_that_is_no_stops_at_each_place(self):
        for bad in (3, 4, -1, -2, -3, -4, LATE, ENDLESS, -ENDLESS):
            for order in ([bad], [bad, 0], [0, bad], [bad, 0, 1], [0, bad, 1], [0, 1, bad], [0, 1, 2, bad]):
                self.check_refused(self.day, order, BadOrder)

    def test_any_number_in_a_day_without_stops(self):
        for bad in (0, 1, -1):
            self.check_refused(Day(("line", 20), 5, 100, []), [bad], BadOrder)

    def test_a_number_that_stands_there_twice(self):
        for order in ([0, 0], [2, 2], [0, 0, 1], [0, 1, 0], [1, 0, 0], [0, 1, 2, 0], [0, 1, 2, 1], [0, 1, 2, 2]):
            self.check_refused(self.day, order, BadOrder)
        self.check_refused(self.day, [1, 1, 1], BadOrder)
        self.check_refused(self.day, [0, 1, 2] * 5, BadOrder)

    def test_stops_that_are_alike_are_not_one_stop(self):
        day = Day(("line", 20), 5, 100, [(8, 0, 500, 4)] * 2)
        self.check(day, [0, 1], [(103, 103, 107), (107, 107, 111)], 114)
        self.check_refused(day, [0, 0], BadOrder)

    def test_ahead_of_missed(self):
        day = Day(("line", 20), 5, 100, [(8, 0, 50, 4), (2, 0, 500, 6)])
        self.check_refused(day, [0], Missed)
        self.check_refused(day, [0, 1], Missed)
        for order in ([0, 2], [0, -1], [0, 0], [0, 1, 2], [0, 1, -1], [0, 1, 0], [0, 1, 1], [2, 0], [-1, 0]):
            self.check_refused(day, order, BadOrder)


class NothingHangsTogether(Orders):

    def setUp(self):
        self.day = Day(("ring", 20), 5, 100, [(8, 110, 120, 4), (2, 0, 130, 6), (19, 0, 110, 1)])

    def test_the_order_and_the_day_stay_as_they_were(self):
        before = state(self.day)
        for given in ([], [0], [1, 0], [0, 1, 2], [0, 0], [0, 7], [-1]):
            order = list(given)
            refusal(timetable, self.day, order)
            refusal(ends, self.day, order)
            self.assertEqual(order, given)
            self.assertEqual(state(self.day), before)

    def test_a_list_that_was_given_out_may_be_changed(self):
        told = timetable(self.day, [1, 0])
        kept = list(told)
        told.reverse()
        told.append((0, 0, 0))
        self.assertEqual(timetable(self.day, [1, 0]), kept)
        self.assertEqual(ends(self.day, [1, 0]), 122)
        timetable(self.day, []).append((0, 0, 0))
        self.assertEqual(timetable(self.day, []), [])

    def test_what_was_told_is_not_changed_by_what_is_asked_later(self):
        order = [1, 0]
        told = timetable(self.day, order)
        kept = list(told)
        order.pop()
        timetable(self.day, order)
        refusal(timetable, self.day, [2, 1, 0])
        self.day.stops.clear()
        self.assertEqual(told, kept)

    def test_the_stops_handed_in_may_be_changed_behind(self):
        stops = [(8, 110, 120, 4)]
        day = Day(("line", 20), 5, 100, stops)
        stops[0] = (8, 0, 0, 0)
        stops.append((3, 0, 500, 0))
        self.check(day, [0], [(103, 110, 114)], 117)
        self.check_refused(day, [1], BadOrder)

    def test_kinds_of_values(self):
        rows = timetable(self.day, [1, 0])
        self.assertIs(type(rows), list)
        for row in rows:
            self.assertIs(type(row), tuple)
            self.assertEqual([type(number) for number in row], [int, int, int])
        self.assertIs(type(ends(self.day, [1, 0])), int)
        self.assertIs(type(ends(self.day, [])), int)


if __name__ == "__main__":
    unittest.main()

"""Points 10 and 14 to 16: the best tour, the clash, and a day's answer."""

import unittest

from routevan.days import Day, ends
from routevan.tours import best, clash, told
from tests.all_orders import best_of, clash_of, made_days, state, told_of, tour_among

LATE = 10 ** 12
ROADS = (("line", 9), ("ring", 9))


class Answers(unittest.TestCase):

    def check_tour(self, day, order, end):
        self.assertEqual(best(day), order)
        self.assertIsNone(clash(day))
        self.assertEqual(told(day), ("tour", order, end))
        self.assertEqual(ends(day, order), end)
        self.check_kinds(day)

    def check_clash(self, day, numbers):
        self.assertIsNone(best(day))
        self.assertEqual(clash(day), numbers)
        self.assertEqual(told(day), ("clash", numbers))
        self.check_kinds(day)

    def check_kinds(self, day):
        answer = told(day)
        self.assertEqual((type(answer), type(answer[0])), (tuple, str))
        if answer[0] == "tour":
            self.assertEqual((len(answer), type(answer[2])), (3, int))
            self.check_numbers(answer[1], list)
            self.check_numbers(best(day), list)
        else:
            self.assertEqual(len(answer), 2)
            self.check_numbers(answer[1], tuple)
            self.check_numbers(clash(day), tuple)

    def check_numbers(self, given, kind):
        self.assertIs(type(given), kind)
        for number in given:
            self.assertIs(type(number), int)


class FewStops(Answers):

    def test_a_day_without_stops(self):
        for road in ROADS:
            for start in (0, 7, LATE):
                self.check_tour(Day(road, 4, start, []), [], start)

    def test_one_stop(self):
        for road in ROADS:
            self.check_tour(Day(road, 4, 7, [(6, 12, 20, 3)]), [0], 17)
            self.check_tour(Day(road, 4, 7, [(6, 0, 9, 3)]), [0], 14)
            self.check_clash(Day(road, 4, 7, [(6, 0, 8, 3)]), (0,))

    def test_two_stops_that_have_one_tour_only(self):
        self.check_tour(Day(("line", 9), 0, 0, [(5, 0, 99, 1), (1, 0, 1, 1)]), [1, 0], 12)
        self.check_tour(Day(("line", 9), 0, 0, [(1, 0, 1, 1), (5, 0, 99, 1)]), [0, 1], 12)

    def test_two_stops_that_clash(self):
        self.check_clash(Day(("line", 9), 4, 0, [(0, 0, 4, 1), (8, 0, 4, 1)]), (0, 1))

    def test_the_earliest_end_though_a_greater_order(self):
        day = Day(("line", 20), 5, 100, [(8, 110, 120, 4), (2, 0, 130, 6), (20, 0, 200, 0)])
        self.assertEqual(ends(day, [0, 1, 2]), 159)
        self.check_tour(day, [1, 0, 2], 146)

    def test_numbers_at_their_limits(self):
        far = 10 ** 9
        stops = [(far, LATE, LATE, LATE), (0, 0, LATE, 0)]
        self.check_tour(Day(("line", far), 0, 0, stops), [1, 0], 2 * LATE + far)
        self.check_clash(Day(("line", far), 0, LATE, stops), (0,))


class SeveralEndAlike(Answers):

    def test_stops_that_are_all_alike(self):
        for many in range(8):
            day = Day(("ring", 9), 0, 0, [(4, 0, 100, 3)] * many)
            self.check_tour(day, list(range(many)), 3 * many + 8 if many else 0)

    def test_both_ways_round(self):
        day = Day(("ring", 12), 0, 0, [(9, 0, 99, 1), (3, 0, 99, 1), (6, 0, 99, 1)])
        self.assertEqual((ends(day, [0, 2, 1]), ends(day, [1, 2, 0])), (15, 15))
        self.check_tour(day, [0, 2, 1], 15)

    def test_the_first_one_though_its_beginning_is_not_the_earliest(self):
        # Both ways round, the van waits at stop 2; by the table's way back, stop 1 goes ahead of 0.
        day = Day(("line", 20), 5, 0, [(6, 0, 99, 0), (1, 0, 99, 0), (6, 50, 60, 1)])
        self.assertEqual((ends(day, [0, 1, 2]), ends(day, [1, 0, 2])), (52, 52))
        self.check_tour(day, [0, 1, 2], 52)

    def test_the_first_one_is_compared_from_the_beginning_on(self):
        day = Day(("line", 9), 0, 0, [(0, 30, 99, 0), (0, 20, 99, 0), (0, 10, 99, 0), (0, 40, 99, 0)])
        self.check_tour(day, [0, 1, 2, 3], 40)
        day = Day(("line", 9), 0, 0, [(0, 30, 30, 0), (0, 20, 20, 0), (0, 10, 90, 0), (0, 40, 99, 0)])
        self.check_tour(day, [1, 0, 2, 3], 40)
        day = Day(("line", 9), 0, 0, [(0, 30, 30, 0), (0, 20, 20, 0), (0, 10, 25, 0), (0, 0, 99, 0)])
        self.check_tour(day, [1, 2, 0, 3], 30)


class Clashes(Answers):

    def test_all_stops_clash(self):
        for many in range(1, 8):
            day = Day(("ring", 9), 2, 0, [(2, 0, 5 * many - 6, 5)] * many if many > 1 else [(3, 0, 0, 5)])
            self.check_clash(day, tuple(range(many)))

    def test_one_stop_alone_clashes(self):
        for many in range(1, 8):
            for closed in range(many):
                stops = [(2, 0, 99, 1)] * many
                stops[closed] = (5, 0, 2, 1)
                self.check_clash(Day(("line", 9), 2, 0, stops), (closed,))

    def test_none_clashes(self):
        for many in range(8):
            self.assertIsNone(clash(Day(("line", 9), 2, 0, [(2, 0, 99, 1)] * many)))

    def test_alike_stops_of_which_three_can_be_served(self):
        self.check_clash(Day(("line", 9), 2, 0, [(2, 0, 12, 5)] * 7), (0, 1, 2, 3))

    def test_of_several_clashes_the_one_of_lesser_numbers_is_left(self):
        left, right, middle = (0, 0, 4, 0), (8, 0, 4, 0), (4, 0, 99, 1)
        self.check_clash(Day(("line", 9), 4, 0, [left, right, left, right]), (0, 1))
        self.check_clash(Day(("line", 9), 4, 0, [left, left, right, right]), (0, 2))
        self.check_clash(Day(("line", 9), 4, 0, [middle, left, middle, right, right]), (1, 3))
        closed = (5, 0, 0, 0)
        self.check_clash(Day(("line", 9), 4, 0, [middle, closed, middle, closed]), (1,))

    def test_a_stop_that_was_left_out_stays_out(self):
        # Any two of them clash.
        day = Day(("line", 9), 4, 0, [(4, 0, 0, 9), (4, 0, 8, 9), (4, 0, 8, 9)])
        self.check_clash(day, (0, 1))

    def test_the_start_and_the_home_are_those_of_the_day(self):
        stops = [(4, 0, 20, 1), (0, 0, 8, 0)]
        self.check_clash(Day(("line", 9), 4, 5, stops), (1,))
        self.check_tour(Day(("line", 9), 4, 4, stops), [1, 0], 13)
        self.check_clash(Day(("line", 9), 3, 6, stops), (1,))
        self.check_tour(Day(("line", 9), 3, 5, stops), [1, 0], 14)

    def test_the_road_is_that_of_the_day(self):
        stops = [(4, 0, 99, 1), (9, 0, 4, 0)]
        self.check_clash(Day(("line", 9), 3, 0, stops), (1,))
        self.check_tour(Day(("ring", 10), 3, 0, stops), [1, 0], 11)


class AllOrders(Answers):

    def check_day(self, day, seen):
        order, numbers = best_of(day), clash_of(day)
        seen["tour" if numbers is None else "clash"] += 1
        self.assertEqual(best(day), order, state(day))
        self.assertEqual(clash(day), numbers, state(day))
        self.assertEqual(told(day), told_of(day), state(day))
        self.check_kinds(day)
        self.check_last(day, numbers)

    def check_last(self, day, numbers):
        """The stops that clash have no tour together, and one without any one of them."""
        if numbers is not None:
            self.assertEqual(list(numbers), sorted(set(numbers)))
            self.assertFalse(tour_among(day, numbers))
            for number in numbers:
                self.assertTrue(tour_among(day, [other for other in numbers if other != number]))

    def test_few_stops(self):
        seen = {"tour": 0, "clash": 0}
        for stops in range(5):
            for day in made_days(150, stops, stops + 70):
                self.check_day(day, seen)
            for day in made_days(50, stops, stops + 90, alike=True):
                self.check_day(day, seen)
        self.assertTrue(min(seen.values()) > 100, seen)

    def test_five_to_seven_stops(self):
        seen = {"tour": 0, "clash": 0}
        for stops, many in ((5, 30), (6, 12), (7, 4)):
            for day in made_days(many, stops, stops + 40):
                self.check_day(day, seen)
        self.check_day(Day(("ring", 8), 0, 0, [(at, 3 * at, 60, at % 3) for at in range(7)]), seen)
        self.check_day(Day(("line", 8), 3, 1, [(8 - at, 2 * at, 30, at % 2) for at in range(7)]), seen)
        self.assertTrue(min(seen.values()) > 1, seen)


class NothingHangsTogether(unittest.TestCase):

    def test_a_list_that_was_given_out_may_be_changed(self):
        day = Day(("ring", 12), 0, 0, [(9, 0, 99, 1), (3, 0, 99, 1), (6, 0, 99, 1)])
        given = best(day)
        answer = told(day)
        self.assertIsNot(answer[1], given)
        given.clear()
        answer[1].reverse()
        self.assertEqual(best(day), [0, 2, 1])
        self.assertEqual(told(day), ("tour", [0, 2, 1], 15))
        self.assertEqual((given, answer), ([], ("tour", [1, 2, 0], 15)))

    def test_the_day_stays_as_it_was(self):
        for day in list(made_days(20, 3, 1)) + list(made_days(5, 7, 2)):
            before = state(day)
            for ask in (best, clash, told):
                ask(day)
                self.assertEqual(state(day), before)


if __name__ == "__main__":
    unittest.main()

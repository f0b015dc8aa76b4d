"""Points 10 to 13: the table behind a begun order, and the least end behind it."""

import unittest
from itertools import permutations

from routevan.days import Day, ends, timetable
from routevan.errors import BadOrder
from routevan.tables import least, table
from tests.all_orders import all_begun, behind, leaving, least_of, made_days, state, table_of
from tests.refusals import refusal

FAR = 10 ** 9
LATE = 10 ** 12
ENDLESS = 10 ** 5000
# Reckoned by hand below: stop 2 has to be the last one, or the others are missed.
STOPS = [(8, 110, 120, 4), (2, 0, 130, 6), (20, 0, 200, 0)]


def three():
    return Day(("line", 20), 5, 100, STOPS)


class Tables(unittest.TestCase):

    def test_a_day_without_stops(self):
        for road in (("line", 9), ("ring", 9)):
            self.assertEqual(table(Day(road, 4, 7, []), []), {})

    def test_a_day_of_one_stop(self):
        for road in (("line", 9), ("ring", 9)):
            day = Day(road, 4, 7, [(6, 12, 20, 3)])
            self.assertEqual(table(day, []), {((0,), 0): (15, None)})
            self.assertEqual(table(day, [0]), {})

    def test_a_stop_that_is_just_missed(self):
        self.assertEqual(table(Day(("line", 9), 4, 7, [(6, 0, 9, 3)]), []), {((0,), 0): (12, None)})
        self.assertEqual(table(Day(("line", 9), 4, 7, [(6, 0, 8, 3)]), []), {})

    def test_three_stops_behind_nothing(self):
        self.assertEqual(table(three(), []), {
            ((0,), 0): (114, None),
            ((1,), 1): (109, None),
            ((2,), 2): (115, None),
            ((0, 1), 0): (119, 1),
            ((0, 1), 1): (126, 0),
            ((0, 2), 2): (126, 0),
            ((1, 2), 2): (127, 1),
            ((0, 1, 2), 2): (131, 0),
        })

    def test_three_stops_behind_one(self):
        self.assertEqual(table(three(), [0]), {
            ((1,), 1): (126, None),
            ((2,), 2): (126, None),
            ((1, 2), 2): (144, 1),
        })
        self.assertEqual(table(three(), [1]), {
            ((0,), 0): (119, None),
            ((2,), 2): (127, None),
            ((0, 2), 2): (131, 0),
        })

    def test_all_others_are_missed_behind_an_order_that_is_not(self):
        self.assertEqual(timetable(three(), [2]), [(115, 115, 115)])
        self.assertEqual(table(three(), [2]), {})

    def test_three_stops_behind_two(self):
        self.assertEqual(table(three(), [0, 1]), {((2,), 2): (144, None)})
        self.assertEqual(table(three(), [1, 0]), {((2,), 2): (131, None)})

    def test_behind_all_stops_and_where_the_begun_order_is_missed(self):
        for begun in ([0, 1, 2], [1, 0, 2], [2, 1, 0], [2, 0], [2, 1], [0, 2, 1]):
            self.assertEqual(table(three(), begun), {}, begun)
        late = Day(("line", 20), 5, 121, STOPS)
        self.assertEqual(table(late, [0]), {})
        self.assertEqual(table(late, [1, 0]), {})

    def test_the_begun_way_is_gone_on_from_its_last_stop_as_late_as_it_is(self):
        day = Day(("ring", 10), 0, 0, [(5, 9, 20, 2), (8, 0, 90, 1), (7, 40, 90, 1)])
        self.assertEqual(table(day, [0]), {
            ((1,), 1): (15, None),
            ((2,), 2): (41, None),
            ((1, 2), 1): (43, 2),
            ((1, 2), 2): (41, 1),
        })

    def test_numbers_at_their_limits(self):
        day = Day(("line", FAR), 0, LATE, [(0, 0, LATE, LATE), (FAR, LATE, LATE, LATE)])
        self.assertEqual(table(day, []), {((0,), 0): (2 * LATE, None)})
        day = Day(("line", FAR), 0, 0, [(0, 0, LATE, LATE), (FAR, LATE, LATE, LATE)])
        self.assertEqual(table(day, []), {((0,), 0): (LATE, None), ((1,), 1): (2 * LATE, None)})


class Before(unittest.TestCase):

    def test_stops_that_are_alike(self):
        day = Day(("ring", 9), 0, 0, [(4, 0, 100, 3)] * 3)
        self.assertEqual(table(day, []), {
            ((0,), 0): (7, None), ((1,), 1): (7, None), ((2,), 2): (7, None),
            ((0, 1), 0): (10, 1), ((0, 1), 1): (10, 0), ((0, 2), 0): (10, 2),
            ((0, 2), 2): (10, 0), ((1, 2), 1): (10, 2), ((1, 2), 2): (10, 1),
            ((0, 1, 2), 0): (13, 1), ((0, 1, 2), 1): (13, 0), ((0, 1, 2), 2): (13, 0),
        })

    def test_seven_stops_that_are_alike(self):
        told = table(Day(("ring", 9), 0, 0, [(4, 0, 100, 3)] * 7), [])
        self.assertEqual(len(told), 448)
        for (done, last), (leaves, before) in told.items():
            others = [number for number in done if number != last]
            self.assertEqual((leaves, before), (4 + 3 * len(done), others[0] if others else None))

    def test_the_least_number_though_the_van_comes_later_by_it(self):
        day = Day(("line", 20), 5, 0, [(1, 0, 99, 0), (6, 0, 99, 0), (6, 50, 60, 1)])
        told = table(day, [])
        self.assertEqual((told[((0, 1), 0)], told[((0, 1), 1)]), ((6, 1), (9, 0)))
        self.assertEqual(timetable(day, [1, 0, 2])[2], (11, 50, 51))
        self.assertEqual(timetable(day, [0, 1, 2])[2], (9, 50, 51))
        self.assertEqual(told[((0, 1, 2), 2)], (51, 0))

    def test_a_greater_number_where_it_is_earlier(self):
        day = Day(("line", 20), 5, 0, [(1, 0, 99, 0), (6, 0, 99, 0), (6, 10, 60, 1)])
        self.assertEqual(table(day, [])[((0, 1, 2), 2)], (11, 1))

    def test_a_begun_stop_is_not_the_one_ahead(self):
        told = table(Day(("line", 9), 0, 0, [(4, 0, 100, 3)] * 4), [0, 3])
        self.assertEqual(told, {
            ((1,), 1): (13, None), ((2,), 2): (13, None), ((1, 2), 1): (16, 2), ((1, 2), 2): (16, 1),
        })


class AllOrders(unittest.TestCase):

    def check_day(self, day, seen):
        for begun in all_begun(day):
            told = table(day, begun)
            self.assertEqual(told, table_of(day, begun), (state(day), begun))
            seen["missed"] += leaving(day, begun) is None
            seen["empty"] += not told
            seen["keys"] += len(told)

    def test_days_of_few_stops(self):
        seen = {"missed": 0, "empty": 0, "keys": 0}
        for stops in range(5):
            for day in made_days(40, stops, stops):
                self.check_day(day, seen)
            for day in made_days(20, stops, stops + 50, alike=True):
                self.check_day(day, seen)
        self.assertTrue(min(seen.values()) > 500, seen)

    def test_days_of_five_stops(self):
        for day in made_days(6, 5, 5):
            self.check_day(day, {"missed": 0, "empty": 0, "keys": 0})

    def test_days_of_six_and_seven_stops(self):
        days = list(made_days(4, 6, 8)) + list(made_days(3, 7, 9))
        days.append(Day(("ring", 8), 0, 0, [(at, 3 * at, 60, at % 3) for at in range(7)]))
        for day in days:
            for begun in ([], [3], [0, 5], [4, 1, 2]):
                self.assertEqual(table(day, begun), table_of(day, begun), (state(day), begun))

    def test_no_order_leaves_earlier_and_the_earliest_ways_go_back(self):
        for day in made_days(30, 4, 12):
            for begun in ([], [0], [3, 1]):
                self.check_ways(day, begun, table(day, begun))

    def check_ways(self, day, begun, told):
        for order in behind(day, begun):
            now, more = leaving(day, order), order[len(begun):]
            if more and now is not None:
                self.assertLessEqual(told[(tuple(sorted(more)), more[-1])][0], now)
        for key in told:
            order = self.gone_back(told, key)
            self.assertEqual(tuple(sorted(order)), key[0])
            self.assertEqual(timetable(day, begun + order)[-1][2], told[key][0])

    def gone_back(self, told, key):
        order = []
        while key is not None:
            done, last = key
            order.insert(0, last)
            before = told[key][1]
            others = tuple(number for number in done if number != last)
            key = (others, before) if before is not None else None
        return order


class Kinds(unittest.TestCase):

    def test_keys_and_values(self):
        for day in list(made_days(10, 4, 3)) + [three()]:
            told = table(day, [])
            self.assertIs(type(told), dict)
            for key, row in told.items():
                self.check_kinds(key, row)

    def check_kinds(self, key, row):
        self.assertEqual((type(key), type(row), len(key), len(row)), (tuple, tuple, 2, 2))
        done, last = key
        self.assertIs(type(done), tuple)
        self.assertEqual({type(number) for number in done}, {int})
        self.assertEqual(list(done), sorted(set(done)))
        self.assertIs(type(last), int)
        self.assertIn(last, done)
        self.assertIs(type(row[0]), int)
        self.assertIs(type(row[1]), int if len(done) > 1 else type(None))

    def test_the_least_end(self):
        self.assertIs(type(least(three(), [])), int)
        self.assertIs(type(least(three(), [1, 0, 2])), int)


class Refused(unittest.TestCase):

    def check(self, day, begun):
        self.assertIs(refusal(table, day, begun), BadOrder, begun)
        self.assertIs(refusal(least, day, begun), BadOrder, begun)

    def test_a_number_that_is_no_stops(self):
        for bad in (3, 4, -1, -2, -3, -4, LATE, ENDLESS, -ENDLESS):
            for begun in ([bad], [bad, 0], [0, bad], [0, bad, 1], [1, 0, 2, bad], [bad, 1, 0, 2]):
                self.check(three(), begun)

    def test_any_number_in_a_day_without_stops(self):
        for bad in (0, 1, -1, ENDLESS):
            self.check(Day(("ring", 9), 4, 7, []), [bad])

    def test_a_number_that_stands_there_twice(self):
        for begun in ([0, 0], [0, 1, 0], [0, 1, 1], [1, 0, 2, 2], [1, 0, 2, 1], [1, 1, 1], [0, 1, 2] * 4):
            self.check(three(), begun)

    def test_ahead_of_missed(self):
        late = Day(("line", 20), 5, 121, STOPS)
        for begun in ([0, 3], [0, -1], [0, 0], [0, 1, 2, 3], [0, 1, 2, 0], [0, 1, 1], [3, 0], [-1, 0]):
            self.check(late, begun)
        self.check(three(), [2, 0, 0])
        self.check(three(), [2, 0, 5])


class Least(unittest.TestCase):

    def test_a_day_without_stops(self):
        for road in (("line", 9), ("ring", 9)):
            for start in (0, 7, LATE):
                self.assertEqual(least(Day(road, 4, start, []), []), start)

    def test_a_day_of_one_stop(self):
        day = Day(("line", 9), 4, 7, [(6, 12, 20, 3)])
        self.assertEqual((least(day, []), least(day, [0])), (17, 17))
        late = Day(("line", 9), 4, 7, [(6, 0, 8, 3)])
        self.assertEqual((least(late, []), least(late, [0])), (None, None))

    def test_behind_some_stops_and_behind_a_tour(self):
        told = [least(three(), begun) for begun in ([], [1], [1, 0], [1, 0, 2])]
        self.assertEqual(told, [146, 146, 146, 146])
        told = [least(three(), begun) for begun in ([0], [0, 1], [0, 1, 2])]
        self.assertEqual(told, [159, 159, 159])

    def test_behind_an_order_that_no_tour_begins_with(self):
        for begun in ([2], [1, 2], [0, 2]):
            self.assertIs(type(timetable(three(), begun)), list)
            self.assertIsNone(least(three(), begun), begun)

    def test_where_the_order_is_missed(self):
        for begun in ([2, 0], [2, 1], [0, 2, 1], [2, 1, 0], [2, 0, 1]):
            self.assertIsNone(least(three(), begun), begun)

    def test_the_way_home_belongs_to_the_end(self):
        day = Day(("line", 9), 0, 0, [(1, 0, 99, 1), (5, 0, 99, 1)])
        self.assertEqual((leaving(day, [0, 1]), ends(day, [0, 1])), (7, 12))
        self.assertEqual((least(day, []), least(day, [0]), least(day, [1])), (12, 12, 12))

    def test_who_leaves_the_last_stop_first_may_be_home_later(self):
        day = Day(("line", 20), 0, 0, [(10, 0, 99, 0), (1, 5, 99, 0)])
        self.assertEqual((leaving(day, [1, 0]), leaving(day, [0, 1])), (14, 19))
        self.assertEqual((least(day, [1]), least(day, [0])), (24, 20))
        self.assertEqual(least(day, []), 20)

    def test_a_ring_is_gone_home_by_the_shortest_way(self):
        day = Day(("ring", 10), 1, 0, [(9, 0, 50, 1), (4, 0, 50, 1), (7, 0, 50, 1)])
        self.assertEqual(least(day, [0, 1, 2]), 17)
        self.assertEqual(least(day, []), min(ends(day, list(order)) for order in permutations(range(3))))

    def test_all_orders_of_few_stops(self):
        seen = {"none": 0, "some": 0}
        for stops in range(5):
            for day in list(made_days(40, stops, stops + 20)) + list(made_days(10, stops, stops, alike=True)):
                for begun in all_begun(day):
                    end = least_of(day, begun)
                    seen["none" if end is None else "some"] += 1
                    self.assertEqual(least(day, begun), end, (state(day), begun))
        self.assertTrue(min(seen.values()) > 500, seen)

    def test_seven_stops(self):
        for day in made_days(4, 7, 31):
            for begun in ([], [6], [2, 0, 4], [6, 5, 4, 3, 2, 1, 0]):
                self.assertEqual(least(day, begun), least_of(day, begun), (state(day), begun))


class NothingHangsTogether(unittest.TestCase):

    def test_a_dict_that_was_given_out_may_be_changed(self):
        day = three()
        for begun in ([], [1], [2, 0], [0, 1, 2]):
            kept = table_of(day, begun)
            told = table(day, begun)
            told.clear()
            told[((7,), 7)] = (0, None)
            self.assertEqual(table(day, begun), kept)
            self.assertEqual(told, {((7,), 7): (0, None)})

    def test_what_was_told_is_not_changed_by_what_is_asked_later(self):
        day = three()
        told = table(day, [])
        for begun in all_begun(day):
            table(day, begun)
            least(day, begun)
        self.assertEqual(told, table_of(day, []))

    def test_the_begun_order_and_the_day_stay_as_they_were(self):
        day = three()
        before = state(day)
        for given in ([], [1], [2, 0], [1, 0, 2], [0, 0], [3], [-1]):
            begun = list(given)
            refusal(table, day, begun)
            refusal(least, day, begun)
            self.assertEqual(begun, given)
            self.assertEqual(state(day), before)

    def test_the_begun_order_may_be_changed_behind(self):
        begun = [1]
        told = table(three(), begun)
        begun.append(0)
        self.assertEqual(told, table_of(three(), [1]))
        self.assertEqual(table(three(), begun), table_of(three(), [1, 0]))


if __name__ == "__main__":
    unittest.main()

"""Points 6 and 7: what a stop is, what a day has, and which refusal is due first."""

import unittest

from routevan.days import Day
from routevan.errors import BadRoad, BadTime, OffRoad, TooMany
from tests.refusals import refusal

FAR = 10 ** 9
LATE = 10 ** 12
ENDLESS = 10 ** 5000
GOOD = (3, 10, 20, 5)


def refused(road=("line", 9), home=0, start=0, stops=()):
    return refusal(Day, road, home, start, list(stops))


class Taken(unittest.TestCase):

    def check_fields(self, road, home, start, stops):
        day = Day(road, home, start, list(stops))
        self.assertEqual((day.road, day.home, day.start), (road, home, start))
        self.assertEqual(day.stops, stops)
        self.assertIs(type(day.stops), list)

    def test_a_day_without_stops(self):
        self.check_fields(("line", 9), 4, 6, [])

    def test_a_day_of_one_stop(self):
        self.check_fields(("ring", 9), 8, 6, [GOOD])

    def test_a_day_of_seven_stops_in_their_order(self):
        self.check_fields(("ring", 9), 0, 6, [(8 - at, at, 20 + at, 3 * at) for at in range(7)])

    def test_several_stops_at_one_place(self):
        self.check_fields(("line", 9), 9, 6, [(3, 0, 5, 1), (3, 2, 9, 0), (7, 0, 5, 1), (3, 0, 4, 1)])

    def test_stops_that_are_all_alike(self):
        self.check_fields(("line", 9), 3, 6, [GOOD] * 7)

    def test_the_numbers_at_their_limits(self):
        self.check_fields(("line", 1), 1, 0, [(0, 0, 0, 0), (1, LATE, LATE, LATE)])
        self.check_fields(("ring", 1), 0, LATE, [(0, 0, LATE, 0)])
        self.check_fields(("line", FAR), FAR, LATE, [(FAR, 0, 0, LATE), (0, 5, 5, 0)])
        self.check_fields(("ring", FAR), FAR - 1, 0, [(FAR - 1, 0, 1, 0)])

    def test_the_list_of_stops_is_the_days_own(self):
        stops = [GOOD, (7, 0, 5, 1)]
        day = Day(("line", 9), 0, 0, stops)
        self.assertEqual(stops, [GOOD, (7, 0, 5, 1)])
        self.assertIsNot(day.stops, stops)
        stops.append(GOOD)
        stops[0] = (1, 2, 3, 4)
        self.assertEqual(day.stops, [GOOD, (7, 0, 5, 1)])
        day.stops.pop()
        self.assertEqual(stops, [(1, 2, 3, 4), (7, 0, 5, 1), GOOD])

    def test_two_days_of_one_list_have_a_list_each(self):
        stops = [GOOD]
        one, other = Day(("line", 9), 0, 0, stops), Day(("line", 9), 0, 0, stops)
        one.stops.append(GOOD)
        self.assertEqual(other.stops, [GOOD])


class Refused(unittest.TestCase):

    def test_bad_roads(self):
        for word in ("", "Line", "LINE", "rings", "lin", "linering", "loop", " line"):
            self.assertIs(refused(road=(word, 9)), BadRoad, word)
        for word in ("line", "ring"):
            for length in (0, -1, -9, -FAR, FAR + 1, 2 * FAR, ENDLESS, -ENDLESS):
                self.assertIs(refused(road=(word, length)), BadRoad)
            for length in (1, 2, FAR - 1, FAR):
                self.assertIsNone(refused(road=(word, length)))

    def test_homes_off_the_road(self):
        for length in (1, 2, 9, FAR):
            for home in (-1, -length, length + 1, ENDLESS, -ENDLESS):
                self.assertIs(refused(road=("line", length), home=home), OffRoad)
                self.assertIs(refused(road=("ring", length), home=home), OffRoad)
            self.assertIs(refused(road=("ring", length), home=length), OffRoad)
            self.assertIsNone(refused(road=("line", length), home=length))
            self.assertIsNone(refused(road=("ring", length), home=length - 1))

    def test_bad_starts(self):
        for start in (-1, -LATE, LATE + 1, 2 * LATE, ENDLESS, -ENDLESS):
            self.assertIs(refused(start=start), BadTime)
        for start in (0, 1, LATE - 1, LATE):
            self.assertIsNone(refused(start=start))

    def test_too_many_stops(self):
        self.assertIsNone(refused(stops=[GOOD] * 7))
        for many in (8, 9, 100):
            self.assertIs(refused(stops=[GOOD] * many), TooMany)

    def test_stops_off_the_road(self):
        for length in (1, 2, 9, FAR):
            for place in (-1, -length, length + 1, ENDLESS, -ENDLESS):
                stops = [(place, 0, 9, 0)]
                self.assertIs(refused(road=("line", length), stops=stops), OffRoad)
                self.assertIs(refused(road=("ring", length), stops=stops), OffRoad)
            self.assertIs(refused(road=("ring", length), stops=[(length, 0, 9, 0)]), OffRoad)
            self.assertIsNone(refused(road=("line", length), stops=[(length, 0, 9, 0)]))
            self.assertIsNone(refused(road=("ring", length), stops=[(length - 1, 0, 9, 0)]))

    def test_bad_times_of_a_stop(self):
        for bad in (-1, -LATE, ENDLESS, -ENDLESS, LATE + 1):
            self.assertIs(refused(stops=[(3, bad, LATE, 0)]), BadTime)
            self.assertIs(refused(stops=[(3, 0, bad, 0)]), BadTime)
            self.assertIs(refused(stops=[(3, 0, LATE, bad)]), BadTime)
        # Both below 0, and both too late, so that it closes behind its opening.
        self.assertIs(refused(stops=[(3, -2, -1, 0)]), BadTime)
        self.assertIs(refused(stops=[(3, LATE + 1, LATE + 2, 0)]), BadTime)

    def test_a_stop_that_closes_before_it_opens(self):
        for opens in (1, 50, LATE):
            self.assertIs(refused(stops=[(3, opens, opens - 1, 0)]), BadTime)
            self.assertIs(refused(stops=[(3, opens, 0, 0)]), BadTime)
            self.assertIsNone(refused(stops=[(3, opens, opens, 0)]))

    def test_a_bad_stop_at_each_place_of_the_list(self):
        for at in range(7):
            for bad, due in (((10, 0, 9, 0), OffRoad), ((3, 9, 8, 0), BadTime), ((3, 0, 9, -1), BadTime)):
                stops = [GOOD] * 7
                stops[at] = bad
                self.assertIs(refused(stops=stops), due)


# In the order in which they are due.
FAULTS = (
    ({"road": ("loop", 9)}, BadRoad),
    ({"home": 10}, OffRoad),
    ({"start": -1}, BadTime),
    ({"stops": [GOOD] * 8}, TooMany),
)
BAD_STOPS = (
    ((10, 10, 20, 5), OffRoad),
    ((-1, 10, 20, 5), OffRoad),
    ((3, -1, 20, 5), BadTime),
    ((3, 10, LATE + 1, 5), BadTime),
    ((3, 10, 20, -1), BadTime),
    ((3, 20, 10, 5), BadTime),
)


class FirstDue(unittest.TestCase):

    def test_two_faults_ahead_of_the_stops(self):
        for at, (first, due) in enumerate(FAULTS):
            for later, _ in FAULTS[at + 1:]:
                self.assertIs(refused(**first, **later), due)

    def test_a_road_of_bad_length_is_told_ahead_of_its_places(self):
        for word in ("line", "ring"):
            self.assertIs(refused(road=(word, 0), home=5, stops=[GOOD]), BadRoad)
            self.assertIs(refused(road=(word, FAR + 1), home=-5), BadRoad)

    def test_a_fault_ahead_of_a_bad_stop(self):
        for first, due in FAULTS[:3]:
            for bad, _ in BAD_STOPS:
                self.assertIs(refused(**first, stops=[bad]), due)

    def test_too_many_ahead_of_a_bad_stop(self):
        for at in range(8):
            for bad, _ in BAD_STOPS:
                stops = [GOOD] * 8
                stops[at] = bad
                self.assertIs(refused(stops=stops), TooMany)

    def test_the_earlier_one_of_two_bad_stops(self):
        for one in range(6):
            for other in range(one + 1, 7):
                for first, due in BAD_STOPS:
                    for second, _ in BAD_STOPS:
                        stops = [GOOD] * 7
                        stops[one], stops[other] = first, second
                        self.assertIs(refused(stops=stops), due)

    def test_the_place_of_a_stop_ahead_of_its_times(self):
        for place in (-1, 10):
            for (_, opens, closes, stay), _ in BAD_STOPS[2:]:
                self.assertIs(refused(stops=[GOOD, (place, opens, closes, stay)]), OffRoad)

    def test_all_faults_at_once(self):
        everything = [(10, -1, -2, -3)] * 8
        self.assertIs(refused(("loop", 0), -1, -1, everything), BadRoad)
        self.assertIs(refused(("line", 9), -1, -1, everything), OffRoad)
        self.assertIs(refused(("line", 9), 0, -1, everything), BadTime)
        self.assertIs(refused(("line", 9), 0, 0, everything), TooMany)
        self.assertIs(refused(("line", 9), 0, 0, everything[1:]), OffRoad)

    def test_a_refused_list_stays_as_it_was(self):
        stops = [GOOD] * 8
        self.assertIs(refusal(Day, ("line", 9), 0, 0, stops), TooMany)
        self.assertEqual(stops, [GOOD] * 8)
        stops = [GOOD, (10, 0, 9, 0)]
        self.assertIs(refusal(Day, ("line", 9), 0, 0, stops), OffRoad)
        self.assertEqual(stops, [GOOD, (10, 0, 9, 0)])


if __name__ == "__main__":
    unittest.main()

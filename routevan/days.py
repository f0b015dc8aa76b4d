"""Days, and what comes of an order of a day's stops."""

from routevan.errors import BadOrder, BadRoad, BadTime, Missed, OffRoad, TooMany
from routevan.roads import apart, has_place, is_road

LATEST = 10 ** 12
MOST_STOPS = 7


def is_time(number):
    """Tell whether a day may have the number as a time."""
    return 0 <= number <= LATEST


# The messages of the errors tell no numbers: Python does not write one of thousands of figures.
def check_stop(road, stop):
    """Refuse a stop that a day on this road can not have."""
    place, opens, closes, stay = stop
    if not has_place(road, place):
        raise OffRoad("the road has no such place for a stop")
    if not (is_time(opens) and is_time(closes) and is_time(stay)):
        raise BadTime("a stop has a time out of bounds")
    if closes < opens:
        raise BadTime("a stop closes before it opens")


def check_day(road, home, start, stops):
    """Refuse what makes no day, by the first fault that is due."""
    if not is_road(road):
        raise BadRoad("there is no such road")
    if not has_place(road, home):
        raise OffRoad("the road has no such place for a home")
    if not is_time(start):
        raise BadTime("the start is out of bounds")
    if len(stops) > MOST_STOPS:
        raise TooMany("a day has no more than seven stops")
    for stop in stops:
        check_stop(road, stop)


class Day:
    """A road, a home, a start and up to seven stops."""

    def __init__(self, road, home, start, stops):
        check_day(road, home, start, stops)
        self.road = road
        self.home = home
        self.start = start
        # A copy, since the list that was handed in may be changed behind.
        self.stops = list(stops)


def check_order(day, order):
    """Refuse an order that names what is no stop of the day, or a stop twice."""
    for number in order:
        if not 0 <= number < len(day.stops):
            raise BadOrder("a number in the order is no stop's")
    if len(set(order)) < len(order):
        raise BadOrder("a number stands in the order twice")


def visit(day, place, leaves, number):
    """Give when the van that leaves the place then comes to the stop, begins and leaves it.

    None where the stop has closed when the van comes.
    """
    there, opens, closes, stay = day.stops[number]
    comes = leaves + apart(day.road, place, there)
    if comes > closes:
        return None
    begins = max(comes, opens)
    return comes, begins, begins + stay


def timetable(day, order):
    """Give for each stop of the order when the van comes, begins and leaves."""
    # All of the order is looked at first: BadOrder goes ahead of Missed.
    check_order(day, order)
    rows = []
    place = day.home
    leaves = day.start
    for number in order:
        row = visit(day, place, leaves, number)
        if row is None:
            raise Missed("the van comes to a stop that has closed")
        rows.append(row)
        place = day.stops[number][0]
        leaves = row[2]
    return rows


def ends(day, order):
    """Tell when the van is home again."""
    rows = timetable(day, order)
    if not rows:
        return day.start
    place = day.stops[order[-1]][0]
    leaves = rows[-1][2]
    return leaves + apart(day.road, place, day.home)

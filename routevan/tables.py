"""Tables: the earliest ways behind a begun order, and the least end behind it."""

from itertools import combinations

from routevan.days import ends, timetable, visit
from routevan.errors import Missed
from routevan.roads import apart


def not_begun(day, begun):
    """Give the numbers of the stops that are not begun, rising."""
    return tuple([number for number in range(len(day.stops)) if number not in begun])


def begun_way(day, begun):
    """Give the place and the time of the van behind the begun order, None where it is missed."""
    try:
        rows = timetable(day, begun)
    except Missed:
        return None
    if not rows:
        return day.home, day.start
    return day.stops[begun[-1]][0], rows[-1][2]


def ways_on(day, rows, done):
    """Give a tuple (number, place, leaves) for each stop that may stand behind the others of `done`."""
    return [(number, day.stops[number][0], rows[(done, number)][0]) for number in done if (done, number) in rows]


def earliest(day, ways, last):
    """Give the earliest leaving of the stop by one of the ways, and the number ahead of it.

    None where the stop has closed by each of the ways.
    """
    found = None
    for before, place, leaves in ways:
        row = visit(day, place, leaves, last)
        # The ways rise by their numbers: of several that are as early, the least number stays.
        if row is not None and (found is None or row[2] < found[0]):
            found = (row[2], before)
    return found


def table(day, begun):
    """Give the earliest (leaves, before) for each key (done, last) of the orders behind the begun one."""
    start = begun_way(day, begun)
    rows = {}
    if start is None:
        return rows
    place, leaves = start
    rest = not_begun(day, begun)
    # Who leaves a stop earlier is never later at the next, so of each choice the earliest way is enough.
    for many in range(1, len(rest) + 1):
        for done in combinations(rest, many):
            for last in done:
                others = tuple([number for number in done if number != last])
                ways = ways_on(day, rows, others) if others else [(None, place, leaves)]
                row = earliest(day, ways, last)
                if row is not None:
                    rows[(done, last)] = row
    return rows


def tour_end(day, order):
    """Tell the end of an order of all stops, None where it is missed."""
    try:
        return ends(day, order)
    except Missed:
        return None


def least(day, begun):
    """Tell the earliest end of the tours that begin with the order, None where there is none."""
    rest = not_begun(day, begun)
    if not rest:
        return tour_end(day, begun)
    rows = table(day, begun)
    homes = [leaves + apart(day.road, place, day.home) for _, place, leaves in ways_on(day, rows, rest)]
    return min(homes, default=None)

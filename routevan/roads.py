"""Roads: a line or a ring, and the ways between its places."""

from routevan.errors import OffRoad

LINE = "line"
RING = "ring"
LONGEST = 10 ** 9


def is_road(road):
    """Tell whether the word and the length are those of a road."""
    word, length = road
    return word in (LINE, RING) and 1 <= length <= LONGEST


def has_place(road, place):
    """Tell whether the road has the place."""
    word, length = road
    if word == LINE:
        return 0 <= place <= length
    return 0 <= place < length


def apart(road, one, other):
    """Tell how long the shortest way between two places is."""
    return abs(way(road, one, other))


def way(road, one, other):
    """Tell the steps from one place to another, below nought where they lead down."""
    word, length = road
    if word == LINE:
        return other - one
    up = (other - one) % length
    # Doubled, so that nothing is rounded where a ring's length is odd.
    if 2 * up <= length:
        return up
    return up - length


def moved(road, place, by):
    """Give the place that is so many steps up, or down where they are below nought."""
    word, length = road
    there = place + by
    if word == RING:
        return there % length
    if not has_place(road, there):
        # No number is told here: Python does not write one of thousands of figures.
        raise OffRoad("the line has no place that far")
    return there

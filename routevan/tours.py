"""Answers: the best tour of a day, or which of its stops clash."""

from routevan.days import Day, ends
from routevan.tables import least


def best(day):
    """Give the tour that ends earliest, of several the first; None where there is no tour."""
    end = least(day, [])
    if end is None:
        return None
    order = []
    for _ in day.stops:
        order.append(next_number(day, order, end))
    return order


def next_number(day, order, end):
    """Give the least number that a tour with this end may have behind the order."""
    rest = [number for number in range(len(day.stops)) if number not in order]
    return min([number for number in rest if least(day, order + [number]) == end])


def has_tour(day, kept):
    """Tell whether there is a tour in a day that has the kept stops alone."""
    stops = [day.stops[number] for number in kept]
    return least(Day(day.road, day.home, day.start, stops), []) is not None


def clash(day):
    """Give the numbers of stops that have no tour together; None where there is a tour."""
    kept = list(range(len(day.stops)))
    if has_tour(day, kept):
        return None
    for number in reversed(range(len(day.stops))):
        others = [other for other in kept if other != number]
        if not has_tour(day, others):
            kept = others
    return tuple(kept)


def told(day):
    """Give the day's answer: the best tour and its end, or the clash."""
    order = best(day)
    if order is None:
        return "clash", clash(day)
    return "tour", order, ends(day, order)

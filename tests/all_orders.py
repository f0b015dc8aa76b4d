"""What the tests share: days made by rule, and answers found by going through all orders."""

from itertools import permutations

from routevan.days import Day


def state(day):
    return (day.road, day.home, day.start, list(day.stops))


def numbers(seed):
    """Numbers that look mixed, the same ones in each run."""
    while True:
        seed = (seed * 6364136223846793005 + 1442695040888963407) % 2 ** 64
        yield seed >> 33


def made_days(many, stops, seed, alike=False):
    """Days of that many stops on short lines and rings, their times so few that much falls together."""
    mixed = numbers(seed)
    for at in range(many):
        road = (("line", "ring")[at % 2], 1 + next(mixed) % 8)
        places = road[1] + (road[0] == "line")
        width = (4, 12, 30, 60)[next(mixed) % 4]
        rows = []
        for _ in range(stops):
            opens = next(mixed) % 15
            rows.append((next(mixed) % places, opens, opens + next(mixed) % width, next(mixed) % 4))
        if alike and rows:
            rows = [rows[next(mixed) % 2 % len(rows)] for _ in rows]
        yield Day(road, next(mixed) % places, next(mixed) % 5, rows)


def steps(road, one, other):
    word, length = road
    straight = abs(one - other)
    return straight if word == "line" else min(straight, length - straight)


def leaving(day, order):
    """When the van leaves the last stop, None where one is missed."""
    place, now = day.home, day.start
    for number in order:
        goal, opens, closes, stay = day.stops[number]
        now += steps(day.road, place, goal)
        if now > closes:
            return None
        place, now = goal, max(now, opens) + stay
    return now


def end_of(day, order):
    now = leaving(day, order)
    if now is None:
        return None
    return now + (steps(day.road, day.stops[order[-1]][0], day.home) if order else 0)


def behind(day, begun):
    """All orders that begin with the begun one, refused or not."""
    rest = [number for number in range(len(day.stops)) if number not in begun]
    for many in range(len(rest) + 1):
        for more in permutations(rest, many):
            yield list(begun) + list(more)


def all_begun(day):
    return list(behind(day, []))


def table_of(day, begun):
    """The least (leaves, before) for each key, of all orders one by one."""
    found = {}
    for order in behind(day, begun):
        more = order[len(begun):]
        now = leaving(day, order)
        if more and now is not None:
            before = more[-2] if len(more) > 1 else None
            found.setdefault((tuple(sorted(more)), more[-1]), []).append((now, before))
    return {key: min(ways) for key, ways in found.items()}


def ends_behind(day, begun):
    """The tours that begin so, each behind its end."""
    tours = [order for order in behind(day, begun) if len(order) == len(day.stops)]
    return [(end_of(day, order), order) for order in tours if leaving(day, order) is not None]


def least_of(day, begun):
    found = ends_behind(day, begun)
    return min(found)[0] if found else None


def best_of(day):
    found = ends_behind(day, [])
    return min(found)[1] if found else None


def tour_among(day, kept):
    return any(leaving(day, order) is not None for order in permutations(kept))


def clash_of(day):
    kept = tuple(range(len(day.stops)))
    if tour_among(day, kept):
        return None
    for number in range(len(day.stops) - 1, -1, -1):
        others = tuple(other for other in kept if other != number)
        if not tour_among(day, others):
            kept = others
    return kept


def told_of(day):
    found = ends_behind(day, [])
    return ("tour", min(found)[1], min(found)[0]) if found else ("clash", clash_of(day))

"""Points 2 to 5: places, how far they are apart, ways and moves."""

import unittest

from routevan.errors import OffRoad
from routevan.roads import apart, moved, way
from tests.refusals import refusal

SMALL = range(1, 10)
BIG = 10 ** 9
HUGE = 10 ** 75
# More figures than Python writes without being told to.
ENDLESS = 10 ** 5000


def places(road):
    word, length = road
    return range(length + 1) if word == "line" else range(length)


def steps_up(length, one, other):
    """How often up it is on a ring, gone step by step."""
    steps = 0
    while one != other:
        one = 0 if one == length - 1 else one + 1
        steps += 1
    return steps


def walked(length, place, by):
    """The place on a ring that many steps off, gone step by step."""
    for _ in range(abs(by)):
        if by > 0:
            place = 0 if place == length - 1 else place + 1
        else:
            place = length - 1 if place == 0 else place - 1
    return place


class Lines(unittest.TestCase):

    def test_every_pair_of_small_lines(self):
        for length in SMALL:
            road = ("line", length)
            for one in places(road):
                for other in places(road):
                    self.assertEqual(way(road, one, other), other - one)
                    self.assertEqual(apart(road, one, other), max(one, other) - min(one, other))

    def test_a_line_of_length_one(self):
        road = ("line", 1)
        self.assertEqual((way(road, 0, 1), way(road, 1, 0)), (1, -1))
        self.assertEqual((apart(road, 0, 1), apart(road, 1, 0)), (1, 1))
        self.assertEqual((way(road, 1, 1), apart(road, 1, 1)), (0, 0))

    def test_the_longest_line(self):
        road = ("line", BIG)
        middle = BIG // 2
        self.assertEqual((way(road, 0, BIG), apart(road, 0, BIG)), (BIG, BIG))
        self.assertEqual((way(road, BIG, 0), apart(road, BIG, 0)), (-BIG, BIG))
        self.assertEqual((way(road, middle, BIG), apart(road, middle, BIG)), (middle, middle))
        self.assertEqual((way(road, middle, 3), apart(road, middle, 3)), (3 - middle, middle - 3))
        for place in (0, middle, BIG):
            self.assertEqual((way(road, place, place), apart(road, place, place)), (0, 0))

    def test_a_line_is_not_gone_round(self):
        self.assertEqual(apart(("line", 10), 0, 9), 9)
        self.assertEqual(way(("line", 10), 9, 0), -9)


class Rings(unittest.TestCase):

    def test_every_pair_of_small_rings(self):
        for length in SMALL:
            road = ("ring", length)
            for one in places(road):
                for other in places(road):
                    up = steps_up(length, one, other)
                    down = steps_up(length, other, one)
                    self.assertEqual(way(road, one, other), up if up <= down else -down)
                    self.assertEqual(apart(road, one, other), min(up, down))

    def test_a_ring_of_length_one(self):
        road = ("ring", 1)
        self.assertEqual((way(road, 0, 0), apart(road, 0, 0)), (0, 0))

    def test_a_ring_of_length_two_leads_up_both_times(self):
        road = ("ring", 2)
        self.assertEqual((way(road, 0, 1), way(road, 1, 0)), (1, 1))
        self.assertEqual((apart(road, 0, 1), apart(road, 1, 0)), (1, 1))

    def test_up_from_the_last_place_is_nought(self):
        road = ("ring", 10)
        self.assertEqual((way(road, 9, 0), way(road, 0, 9)), (1, -1))
        self.assertEqual((way(road, 8, 1), way(road, 1, 8)), (3, -3))
        self.assertEqual((apart(road, 9, 0), apart(road, 1, 8)), (1, 3))

    def test_across_the_ring_it_leads_up(self):
        road = ("ring", 10)
        self.assertEqual((way(road, 0, 5), way(road, 5, 0)), (5, 5))
        self.assertEqual((way(road, 8, 3), way(road, 3, 8)), (5, 5))
        self.assertEqual((apart(road, 8, 3), apart(road, 3, 8)), (5, 5))

    def test_around_a_ring_of_odd_length_the_shorter_way_is_taken(self):
        road = ("ring", 7)
        self.assertEqual((way(road, 0, 3), way(road, 0, 4)), (3, -3))
        self.assertEqual((way(road, 5, 1), way(road, 5, 2)), (3, -3))

    def test_the_longest_ring(self):
        road = ("ring", BIG)
        middle = BIG // 2
        self.assertEqual((way(road, 0, BIG - 1), way(road, BIG - 1, 0)), (-1, 1))
        self.assertEqual((way(road, 0, middle), way(road, middle, 0)), (middle, middle))
        self.assertEqual(way(road, 0, middle + 1), 1 - middle)
        self.assertEqual(way(road, 0, middle - 1), middle - 1)
        self.assertEqual(apart(road, 0, middle), middle)
        self.assertEqual(apart(road, 1, BIG - 1), 2)
        for place in (0, middle, BIG - 1):
            self.assertEqual((way(road, place, place), apart(road, place, place)), (0, 0))

    def test_just_across_the_longest_ring_of_odd_length(self):
        road = ("ring", BIG - 1)
        middle = BIG // 2
        self.assertEqual(way(road, 0, middle - 1), middle - 1)
        self.assertEqual(way(road, 0, middle), 1 - middle)


class MovesOnLines(unittest.TestCase):

    def test_every_small_move(self):
        for length in SMALL:
            road = ("line", length)
            for place in places(road):
                for by in range(-2 * length - 2, 2 * length + 3):
                    if place + by in places(road):
                        self.assertEqual(moved(road, place, by), place + by)
                    else:
                        self.assertIs(refusal(moved, road, place, by), OffRoad)

    def test_the_last_place_and_the_one_beyond(self):
        for length in (1, 2, 8, BIG):
            road = ("line", length)
            self.assertEqual(moved(road, 0, length), length)
            self.assertEqual(moved(road, length, 0), length)
            self.assertEqual(moved(road, length - 1, 1), length)
            self.assertIs(refusal(moved, road, 0, length + 1), OffRoad)
            self.assertIs(refusal(moved, road, length, 1), OffRoad)

    def test_nought_and_the_one_below(self):
        for length in (1, 2, 8, BIG):
            road = ("line", length)
            self.assertEqual(moved(road, length, -length), 0)
            self.assertEqual(moved(road, 0, 0), 0)
            self.assertEqual(moved(road, 1, -1), 0)
            self.assertIs(refusal(moved, road, length, -length - 1), OffRoad)
            self.assertIs(refusal(moved, road, 0, -1), OffRoad)

    def test_huge_moves_are_off_the_line(self):
        for length in (1, 7, BIG):
            for by in (HUGE, -HUGE, ENDLESS, -ENDLESS):
                self.assertIs(refusal(moved, ("line", length), 1, by), OffRoad)


class MovesOnRings(unittest.TestCase):

    def test_every_small_move(self):
        for length in SMALL:
            road = ("ring", length)
            for place in places(road):
                for by in range(-3 * length - 2, 3 * length + 3):
                    self.assertEqual(moved(road, place, by), walked(length, place, by))

    def test_several_rounds(self):
        road = ("ring", 10)
        self.assertEqual(moved(road, 9, 1), 0)
        self.assertEqual(moved(road, 0, -1), 9)
        self.assertEqual(moved(road, 3, 10), 3)
        self.assertEqual(moved(road, 3, 48), 1)
        self.assertEqual(moved(road, 3, -48), 5)
        self.assertEqual(moved(("ring", 1), 0, 48), 0)
        self.assertEqual(moved(("ring", 1), 0, -48), 0)

    def test_huge_moves(self):
        self.assertEqual(moved(("ring", 1), 0, HUGE), 0)
        self.assertEqual(moved(("ring", 1), 0, -HUGE), 0)
        # 10 ** 75 is 6 more than some rounds of 7.
        self.assertEqual(moved(("ring", 7), 2, HUGE), 1)
        self.assertEqual(moved(("ring", 7), 2, -HUGE), 3)
        self.assertEqual(moved(("ring", BIG), 5, HUGE + 3), 8)
        self.assertEqual(moved(("ring", BIG), 5, -HUGE - 6), BIG - 1)
        self.assertEqual(moved(("ring", BIG), BIG - 1, HUGE + 1), 0)
        self.assertEqual(moved(("ring", BIG), 5, ENDLESS + 3), 8)
        self.assertEqual(moved(("ring", BIG), 5, -ENDLESS - 3), 2)

    def test_the_longest_ring(self):
        road = ("ring", BIG)
        self.assertEqual(moved(road, BIG - 1, 1), 0)
        self.assertEqual(moved(road, 0, -1), BIG - 1)
        self.assertEqual(moved(road, BIG // 2, 0), BIG // 2)
        self.assertEqual(moved(road, 4, 3 * BIG + 2), 6)


class Both(unittest.TestCase):

    def test_the_way_leads_from_the_one_to_the_other(self):
        for word in ("line", "ring"):
            for length in SMALL:
                road = (word, length)
                for one in places(road):
                    for other in places(road):
                        self.assertEqual(moved(road, one, way(road, one, other)), other)

    def test_all_numbers_are_whole(self):
        for road in (("line", 9), ("ring", 9), ("ring", 8), ("ring", BIG)):
            self.assertIs(type(apart(road, 7, 1)), int)
            self.assertIs(type(way(road, 7, 1)), int)
            self.assertIs(type(moved(road, 7, -3)), int)


if __name__ == "__main__":
    unittest.main()

"""Point 15: what is heard of a lift that stops at some floors."""

import itertools
import unittest

from liftheard.errors import UnknownFloor
from liftheard.hearing import first_wrong, floors_behind
from liftheard.houses import House
from liftheard.sounds import sounds
from liftheard.ways import ways

HOUSE = House((3, 2, 4), (1, 3))
DOOR = ("door",)
RINGS = ("bell", True)
SILENT = ("bell", False)


def way_of(begin, stops):
    way = [begin]
    for floor in stops:
        # A row "go" only where the lift is not there already, then the rows "bell" and "door".
        way += [floor] * (2 if floor == way[-1] else 3)
    return tuple(way)


class TestExample(unittest.TestCase):

    def test_value(self):
        self.assertEqual(sounds(HOUSE, 0, (2, 2, 3)),
                         [("go", 5), SILENT, DOOR, SILENT, DOOR, ("go", 4), RINGS, DOOR])


class TestSounds(unittest.TestCase):

    def test_no_stops(self):
        for begin in HOUSE.floors:
            self.assertEqual(sounds(HOUSE, begin, ()), [])

    def test_where_the_lift_stands_already(self):
        self.assertEqual(sounds(HOUSE, 1, (1,)), [RINGS, DOOR])
        self.assertEqual(sounds(HOUSE, 2, (2,)), [SILENT, DOOR])
        self.assertEqual(sounds(HOUSE, 0, (3, 3, 3)), [("go", 9), RINGS, DOOR, RINGS, DOOR, RINGS, DOOR])

    def test_with_and_without_a_bell(self):
        for begin, stop in itertools.permutations(HOUSE.floors, 2):
            self.assertEqual(sounds(HOUSE, begin, (stop,)),
                             [("go", HOUSE.seconds(begin, stop)), ("bell", stop in (1, 3)), DOOR])
        self.assertEqual(sounds(House((3, 2), ()), 0, (1, 0)), [("go", 3), SILENT, DOOR] * 2)
        self.assertEqual(sounds(House((3, 2), (0, 1, 2)), 0, (1, 0)), [("go", 3), RINGS, DOOR] * 2)

    def test_down_and_up(self):
        self.assertEqual(sounds(HOUSE, 3, (1, 0, 3)),
                         [("go", 6), RINGS, DOOR, ("go", 3), SILENT, DOOR, ("go", 9), RINGS, DOOR])

    def test_longest(self):
        self.assertEqual(sounds(House((9,) * 9, (9,)), 9, (0, 9)), [("go", 81), SILENT, DOOR, ("go", 81), RINGS, DOOR])

    def test_heard_back(self):
        for house in (HOUSE, House((2, 2), (1,)), House((1, 1, 1), ())):
            for begin in house.floors:
                for stops in itertools.product(house.floors, repeat=3):
                    log = sounds(house, begin, stops)
                    way = way_of(begin, stops)
                    self.assertIsNone(first_wrong(house, (begin,), log))
                    self.assertIn(stops[-1], floors_behind(house, (begin,), log))
                    self.assertIn(way, list(ways(house, (begin,), log)))


class TestErrors(unittest.TestCase):

    def test_begin(self):
        for begin in (-1, 4):
            for stops in ((), (1,)):
                with self.assertRaises(UnknownFloor):
                    sounds(HOUSE, begin, stops)

    def test_each_stop(self):
        for stops in ((4,), (-1,), (0, 4), (0, 1, 2, -1), (4, 0, 0)):
            with self.assertRaises(UnknownFloor):
                sounds(HOUSE, 1, stops)


class TestArguments(unittest.TestCase):

    def test_lists_are_new(self):
        for _ in range(2):
            log = sounds(HOUSE, 1, (1, 0))
            self.assertEqual(log, [RINGS, DOOR, ("go", 3), SILENT, DOOR])
            log.clear()

    def test_stops_are_unchanged(self):
        stops = [2, 2, 3]
        self.assertEqual(sounds(HOUSE, 0, stops), sounds(HOUSE, 0, (2, 2, 3)))
        self.assertEqual(stops, [2, 2, 3])


if __name__ == "__main__":
    unittest.main()

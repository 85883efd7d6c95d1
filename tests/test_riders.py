"""Point 8: riders, the stops that they fit, and the ways that stop so."""

import itertools
import unittest

from liftheard.errors import InvalidLog, InvalidRiders, UnknownFloor
from liftheard.houses import House
from liftheard.riders import fits, rider_ways
from liftheard.ways import ways

HOUSE = House((3, 2, 4), (1, 3))
SIX = [(0, 1), (1, 2), (2, 3), (3, 2), (2, 1), (1, 0)]
DOORS = [("gap",), ("door",), ("gap",), ("door",)]


class RiderCase(unittest.TestCase):

    def assert_invalid(self, riders, index):
        for ask in (lambda: fits(HOUSE, (0,), riders), lambda: rider_ways(HOUSE, (0,), DOORS, riders)):
            with self.assertRaises(InvalidRiders) as caught:
                ask()
            self.assertEqual(caught.exception.index, index)


class TestExamples(RiderCase):

    def test_values(self):
        found = [fits(HOUSE, (1, 3, 0), [(1, 0), (3, 0)]), fits(HOUSE, (3, 1), [(1, 3)])]
        self.assertEqual(found + [rider_ways(HOUSE, (0,), DOORS, [(1, 2)])], [True, False, [(0, 1, 1, 2, 2)]])

    def test_error(self):
        with self.assertRaises(InvalidRiders) as caught:
            fits(HOUSE, (), [(1, 1)])
        self.assertEqual(caught.exception.index, 0)


class TestWrongRiders(RiderCase):

    def test_equal_floors(self):
        self.assert_invalid([(0, 1), (2, 2)], 1)

    def test_no_floors(self):
        for rider in ((4, 0), (0, 4), (-1, 0), (0, -1)):
            with self.subTest(rider=rider):
                self.assert_invalid([(0, 1), (1, 0), rider], 2)

    def test_seven(self):
        self.assert_invalid(SIX + [(0, 1)], 6)
        self.assert_invalid(SIX + [(1, 1), (9, 9)], 6)

    def test_first_of_several(self):
        self.assert_invalid([(0, 1), (3, 3), (0, 4)] + SIX, 1)

    def test_six(self):
        self.assertTrue(fits(HOUSE, (0, 1, 2, 3, 2, 1, 0), SIX))


class TestFits(RiderCase):

    def test_is_a_boolean(self):
        self.assertIs(fits(HOUSE, (0, 1), [(0, 1)]), True)
        self.assertIs(fits(HOUSE, (1, 0), [(0, 1)]), False)
        self.assertIs(fits(HOUSE, (0, 2), [(0, 1)]), False)
        self.assertIs(fits(HOUSE, (), []), True)

    def test_no_riders(self):
        self.assertTrue(fits(HOUSE, (), []))
        self.assertFalse(fits(HOUSE, (0,), []))

    def test_no_stops(self):
        self.assertFalse(fits(HOUSE, (), [(0, 1)]))

    def test_second_floor_behind_the_first(self):
        self.assertTrue(fits(HOUSE, (0, 2), [(0, 2)]))
        self.assertTrue(fits(HOUSE, (2, 0, 2), [(0, 2)]))
        self.assertTrue(fits(HOUSE, (0, 0, 2, 2), [(0, 2)]))
        self.assertTrue(fits(HOUSE, (0, 2, 0), [(0, 2)]))

    def test_second_floor_ahead_of_the_first(self):
        self.assertFalse(fits(HOUSE, (2, 0), [(0, 2)]))
        self.assertFalse(fits(HOUSE, (2, 2, 0, 0), [(0, 2)]))

    def test_one_of_the_floors_alone(self):
        self.assertFalse(fits(HOUSE, (0,), [(0, 2)]))
        self.assertFalse(fits(HOUSE, (2,), [(0, 2)]))

    def test_somewhere_behind(self):
        self.assertTrue(fits(HOUSE, (0, 1, 3, 2), [(0, 2), (1, 3)]))
        self.assertFalse(fits(HOUSE, (0, 3, 1, 2), [(0, 2), (1, 3)]))

    def test_stop_of_no_rider(self):
        self.assertFalse(fits(HOUSE, (0, 1, 2), [(0, 2)]))
        self.assertFalse(fits(HOUSE, (0, 2, 3), [(0, 2)]))
        self.assertFalse(fits(HOUSE, (3, 0, 2), [(0, 2)]))

    def test_equal_riders(self):
        self.assertTrue(fits(HOUSE, (0, 2), [(0, 2), (0, 2)]))

    def test_there_and_back(self):
        self.assertFalse(fits(HOUSE, (0, 2), [(0, 2), (2, 0)]))
        self.assertTrue(fits(HOUSE, (0, 2, 0), [(0, 2), (2, 0)]))


class TestRiderWays(RiderCase):

    def test_several_ascending(self):
        log = [("gap",), ("door",), ("gap",), ("door",), ("gap",), ("look", (0, 3))]
        self.assertEqual(rider_ways(HOUSE, (0, 2), log, [(3, 1)]), [
            (0, 3, 3, 1, 1, 0, 0), (0, 3, 3, 1, 1, 3, 3), (2, 3, 3, 1, 1, 0, 0), (2, 3, 3, 1, 1, 3, 3),
        ])

    def test_rows_door_alone(self):
        log = [("go", 3), ("bell", True), ("go", 2), ("door",), ("go", 4), ("door",)]
        self.assertEqual(rider_ways(HOUSE, (0,), log, [(2, 3)]), [(0, 1, 1, 2, 2, 3, 3)])
        self.assertEqual(rider_ways(HOUSE, (0,), log, [(1, 3), (2, 3)]), [])

    def test_door_at_the_beginning(self):
        self.assertEqual(rider_ways(HOUSE, (0, 1), [("door",), ("gap",), ("door",)], [(1, 0)]), [(1, 1, 0, 0)])

    def test_doors_side_by_side(self):
        log = [("door",), ("door",), ("gap",), ("door",)]
        self.assertEqual(rider_ways(HOUSE, (0,), log, [(0, 3)]), [(0, 0, 0, 3, 3)])

    def test_no_riders(self):
        self.assertEqual(rider_ways(HOUSE, (0, 1), [("go", 3)], []), [(0, 1), (1, 0)])
        self.assertEqual(rider_ways(HOUSE, (0, 1), [("go", 3), ("door",)], []), [])
        self.assertEqual(rider_ways(HOUSE, (0, 1), [], []), [(0,), (1,)])

    def test_no_way(self):
        self.assertEqual(rider_ways(HOUSE, (0,), [("go", 2), ("door",)], [(0, 1)]), [])
        self.assertEqual(rider_ways(HOUSE, (), DOORS, [(0, 1)]), [])
        self.assertEqual(rider_ways(HOUSE, (), [], []), [])
        self.assertEqual(rider_ways(HOUSE, (0,), [], [(0, 1)]), [])

    def test_each_way_by_what_fits_tells(self):
        log = [("gap",), ("door",), ("gap",), ("door",), ("go", 2), ("door",), ("gap",), ("door",)]
        doors = [moment + 1 for moment, row in enumerate(log) if row == ("door",)]
        every = list(ways(HOUSE, (0, 1, 2, 3), log))
        for riders in itertools.combinations(itertools.permutations(range(4), 2), 2):
            riders = list(riders)
            expected = [way for way in every if fits(HOUSE, tuple(way[moment] for moment in doors), riders)]
            self.assertEqual(rider_ways(HOUSE, (0, 1, 2, 3), log, riders), expected)

    def test_few_of_very_many(self):
        house = House((1,) * 9, ())
        log = [("gap",), ("door",)] * 12 + [("gap",), ("look", (9,))]
        found = rider_ways(house, (0,), log, [(9, 8)])
        # Each stop is at one of two floors: all 2 ** 12 but those that never stop at 9, or at 8 behind it.
        self.assertEqual(len(found), 2 ** 12 - 13)
        self.assertEqual(found, sorted(found))

    def test_order_of_the_errors(self):
        with self.assertRaises(InvalidRiders) as caught:
            rider_ways(HOUSE, (4,), [("go", 0)], [(0, 1), (1, 1)])
        self.assertEqual(caught.exception.index, 1)
        with self.assertRaises(UnknownFloor):
            rider_ways(HOUSE, (4,), [("go", 0)], [(0, 1)])
        with self.assertRaises(InvalidLog) as caught:
            rider_ways(HOUSE, (0,), [("go", 2), ("go", 0)], [(0, 1)])
        self.assertEqual(caught.exception.index, 1)


class TestArguments(RiderCase):

    def test_arguments_are_unchanged_and_lists_are_new(self):
        log, riders = list(DOORS), [(1, 2)]
        for _ in range(2):
            found = rider_ways(HOUSE, (0,), log, riders)
            self.assertEqual(found, [(0, 1, 1, 2, 2)])
            found.clear()
            self.assertTrue(fits(HOUSE, (1, 2), riders))
        self.assertEqual((log, riders), (DOORS, [(1, 2)]))


if __name__ == "__main__":
    unittest.main()

"""Points 5 and 6: all ways, their number and order, and the floors that are in them."""

import types
import unittest

from liftheard.errors import InvalidLog, InvalidNumber, NoWay, UnknownFloor
from liftheard.houses import House
from liftheard.ways import judged, links_of, numbers_through, passed, way_at, way_count, ways

HOUSE = House((3, 2, 4), (1, 3))
EVEN = House((3, 3), (1,))
TEN = House((1,) * 9, ())
HUNDRED_GAPS = [("gap",)] * 100


def all_told(start, log, house=HOUSE):
    """Return what the three functions of point 5 tell: the ways, their number, and each one by its index."""
    number = way_count(house, start, log)
    return [list(ways(house, start, log)), number, [way_at(house, start, log, index) for index in range(number)]]


class TestExamples(unittest.TestCase):

    def test_values(self):
        log = [("gap",), ("bell", True)]
        told = [list(ways(HOUSE, (0,), log)), way_count(HOUSE, (0,), log), way_at(HOUSE, (0,), log, 1)]
        told += [judged(HOUSE, (0,), log, 1), passed(HOUSE, (0,), [("go", 9)], 2), judged(HOUSE, (0,), [("go", 9)], 2)]
        self.assertEqual(told, [[(0, 1, 1), (0, 3, 3)], 2, (0, 3, 3), "perhaps", "surely", "never"])

    def test_error(self):
        with self.assertRaises(InvalidNumber):
            way_at(HOUSE, (0,), [], 1)


class TestWays(unittest.TestCase):

    def assert_ways(self, start, log, expected, house=HOUSE):
        self.assertEqual(all_told(start, log, house), [expected, len(expected), expected])

    def test_is_a_generator(self):
        self.assertIsInstance(ways(HOUSE, (0,), []), types.GeneratorType)

    def test_by_hand(self):
        self.assert_ways((0, 1), [("go", 3), ("gap",), ("bell", False)], [
            (0, 1, 0, 0), (0, 1, 2, 2), (1, 0, 0, 0), (1, 0, 2, 2),
        ])

    def test_up_and_down(self):
        self.assert_ways((0, 1, 2), [("go", 3), ("door",), ("go", 3)], [
            (0, 1, 1, 0), (0, 1, 1, 2), (1, 0, 0, 1), (1, 2, 2, 1), (2, 1, 1, 0), (2, 1, 1, 2),
        ], EVEN)

    def test_beginnings_that_lead_nowhere_are_left_out(self):
        self.assert_ways((0, 1, 2, 3), [("gap",), ("look", (3,)), ("go", 4)], [
            (0, 3, 3, 2), (1, 3, 3, 2), (2, 3, 3, 2), (3, 3, 3, 2),
        ])
        self.assert_ways((0, 1, 2, 3), [("go", 4)], [(2, 3), (3, 2)])

    def test_one_way(self):
        self.assert_ways((0,), [("go", 5), ("bell", False)], [(0, 2, 2)])

    def test_no_way(self):
        self.assert_ways((0,), [("go", 2)], [])
        self.assert_ways((0, 1, 2, 3), [("gap",), ("look", ())], [])

    def test_empty_log(self):
        self.assert_ways((0, 2), [], [(0,), (2,)])

    def test_empty_start(self):
        self.assert_ways((), [("gap",)], [])
        self.assert_ways((), [], [])

    def test_index_that_there_is_not(self):
        log = [("gap",), ("bell", True)]
        for index in (-1, -2, 2, 3, 10 ** 30):
            with self.subTest(index=index), self.assertRaises(InvalidNumber):
                way_at(HOUSE, (0,), log, index)
        with self.assertRaises(InvalidNumber):
            way_at(HOUSE, (0,), [("go", 2)], 0)
        with self.assertRaises(InvalidNumber):
            way_at(HOUSE, (), [], 0)

    def test_very_many(self):
        start = TEN.floors
        self.assertEqual(way_count(TEN, start, HUNDRED_GAPS), 10 ** 101)
        self.assertEqual(way_at(TEN, start, HUNDRED_GAPS, 0), (0,) * 101)
        self.assertEqual(way_at(TEN, start, HUNDRED_GAPS, 10 ** 101 - 1), (9,) * 101)
        index = int("3141592653" * 10)
        self.assertEqual(way_at(TEN, start, HUNDRED_GAPS, index), (0,) + (3, 1, 4, 1, 5, 9, 2, 6, 5, 3) * 10)
        with self.assertRaises(InvalidNumber):
            way_at(TEN, start, HUNDRED_GAPS, 10 ** 101)

    def test_first_ones_of_very_many(self):
        found = ways(TEN, (4,), HUNDRED_GAPS)
        self.assertEqual([next(found)[-2:] for _ in range(12)], [(0, k) for k in range(10)] + [(1, 0), (1, 1)])


class TestNumbersThrough(unittest.TestCase):

    def test_numbers_of_ways_by_moment_and_floor(self):
        links = links_of(HOUSE, [("gap",), ("go", 9)])
        self.assertEqual(numbers_through(HOUSE, (0, 1), links), [[2, 2, 0, 0], [2, 0, 0, 2], [2, 0, 0, 2]])
        self.assertEqual(numbers_through(HOUSE, (2,), []), [[0, 0, 1, 0]])
        self.assertEqual(numbers_through(HOUSE, (), links_of(HOUSE, [("gap",)])), [[0] * 4] * 2)


class TestErrorsOfWays(unittest.TestCase):

    def assert_raised(self, error, start, log, index=0, attributes=None):
        for ask in (lambda: list(ways(HOUSE, start, log)), lambda: way_count(HOUSE, start, log),
                    lambda: way_at(HOUSE, start, log, index)):
            with self.assertRaises(error) as caught:
                ask()
            self.assertEqual(vars(caught.exception), attributes or {})

    def test_unknown_floor_first(self):
        self.assert_raised(UnknownFloor, (0, 4), [("go", 0)], -1)

    def test_then_invalid_log(self):
        self.assert_raised(InvalidLog, (0,), [("go", 2), ("go", 0)], -1, {"index": 1})
        self.assert_raised(InvalidLog, (), [("look", (4,))], 0, {"index": 0})

    def test_generator_raises_when_the_iteration_begins(self):
        for start, log, error in (((4,), [], UnknownFloor), ((0,), [("go", 82)], InvalidLog)):
            found = ways(HOUSE, start, log)
            with self.assertRaises(error):
                next(found)


class TestJudged(unittest.TestCase):

    def test_at_the_beginning(self):
        self.assertEqual(judged(HOUSE, (0,), [], 0), "surely")
        self.assertEqual(judged(HOUSE, (0, 1), [], 0), "perhaps")
        self.assertEqual(judged(HOUSE, (0, 1), [], 2), "never")
        self.assertEqual(judged(HOUSE, (0,), [("go", 3)], 0), "surely")

    def test_behind_a_row(self):
        self.assertEqual(judged(HOUSE, (0,), [("go", 3), ("go", 2)], 1), "surely")
        self.assertEqual(judged(HOUSE, (0,), [("go", 3), ("go", 2)], 2), "surely")
        self.assertEqual(judged(HOUSE, (0,), [("gap",), ("bell", False)], 2), "perhaps")
        self.assertEqual(judged(HOUSE, (0,), [("gap",), ("bell", False)], 1), "never")

    def test_by_whole_ways_alone(self):
        log = [("gap",), ("go", 9), ("bell", True)]
        self.assertEqual(judged(HOUSE, (1,), log, 0), "surely")
        self.assertEqual(judged(HOUSE, (1,), log, 2), "never")

    def test_at_different_moments(self):
        self.assertEqual(judged(HOUSE, (0, 1), [("go", 3)], 0), "surely")
        self.assertEqual(judged(HOUSE, (0, 1), [("go", 3)], 1), "surely")

    def test_gone_by_does_not_count(self):
        self.assertEqual(judged(HOUSE, (0,), [("go", 9)], 1), "never")
        self.assertEqual(judged(HOUSE, (0, 1), [("gap",), ("go", 6)], 2), "never")


class TestPassed(unittest.TestCase):

    def test_gone_by_upwards_and_downwards(self):
        for start in ((0,), (3,)):
            self.assertEqual([passed(HOUSE, start, [("go", 9)], floor) for floor in range(4)], ["surely"] * 4)

    def test_ahead_of_and_behind_the_row(self):
        told = [passed(HOUSE, (1,), [("go", 2)], floor) for floor in range(4)]
        self.assertEqual(told, ["never", "surely", "surely", "never"])

    def test_perhaps(self):
        house = House((1, 1, 1, 1), ())
        told = [passed(house, (2,), [("go", 2)], floor) for floor in range(5)]
        self.assertEqual(told, ["perhaps", "perhaps", "surely", "perhaps", "perhaps"])
        self.assertEqual(judged(house, (2,), [("go", 2)], 1), "never")

    def test_gone_by_in_some_ways_and_stopped_at_in_others(self):
        log = [("look", (0, 2)), ("go", 5), ("look", (0, 2)), ("go", 5)]
        self.assertEqual(passed(HOUSE, (0, 2), log, 1), "surely")
        self.assertEqual(judged(HOUSE, (0, 2), log, 1), "never")

    def test_gap_by_its_end_alone(self):
        log = [("gap",), ("look", (3,))]
        told = [passed(HOUSE, (0,), log, floor) for floor in range(4)]
        self.assertEqual(told, ["surely", "never", "never", "surely"])
        self.assertEqual(passed(HOUSE, (0,), [("gap",)], 2), "perhaps")

    def test_at_the_beginning(self):
        self.assertEqual(passed(HOUSE, (0,), [], 0), "surely")
        self.assertEqual(passed(HOUSE, (0, 1), [], 0), "perhaps")
        self.assertEqual(passed(HOUSE, (0, 1), [], 3), "never")


class TestVeryMany(unittest.TestCase):

    def test_judged_and_passed(self):
        for function in (judged, passed):
            self.assertEqual(function(TEN, (4,), HUNDRED_GAPS, 4), "surely")
            self.assertEqual(function(TEN, (4,), HUNDRED_GAPS, 5), "perhaps")
        log = HUNDRED_GAPS + [("look", (0,)), ("go", 9)] + HUNDRED_GAPS
        self.assertEqual(judged(TEN, (4,), log, 5), "perhaps")
        self.assertEqual(passed(TEN, (4,), log, 5), "surely")
        never = [("go", 1), ("look", (5,)), ("go", 1), ("look", (4,))] * 50
        self.assertEqual(judged(TEN, (4,), never, 6), "never")


class TestErrorsOfJudged(unittest.TestCase):

    def assert_raised(self, error, start, log, floor):
        for function in (judged, passed):
            with self.subTest(function=function.__name__), self.assertRaises(error):
                function(HOUSE, start, log, floor)

    def test_errors_of_point_4_first(self):
        self.assert_raised(UnknownFloor, (4,), [("go", 0)], 0)
        self.assert_raised(InvalidLog, (0,), [("go", 0)], 4)
        self.assert_raised(InvalidLog, (), [("go", 2), ("look", (7,))], 0)

    def test_unknown_floor_ahead_of_no_way(self):
        for floor in (4, -1):
            self.assert_raised(UnknownFloor, (0,), [("go", 2)], floor)
            self.assert_raised(UnknownFloor, (0,), [], floor)

    def test_no_way(self):
        self.assert_raised(NoWay, (0,), [("go", 2)], 0)
        self.assert_raised(NoWay, (), [], 0)


class TestArguments(unittest.TestCase):

    def test_arguments_are_unchanged_and_answers_are_the_same(self):
        start, rows = (0, 1), [("gap",), ("look", (1, 2)), ("go", 2)]
        log = list(rows)
        for _ in range(2):
            self.assertEqual(all_told(start, log), [[(0, 1, 1, 2), (0, 2, 2, 1), (1, 1, 1, 2), (1, 2, 2, 1)], 4, [
                (0, 1, 1, 2), (0, 2, 2, 1), (1, 1, 1, 2), (1, 2, 2, 1),
            ]])
            self.assertEqual((judged(HOUSE, start, log, 0), passed(HOUSE, start, log, 0)), ("perhaps", "perhaps"))
        self.assertEqual(log, rows)

    def test_log_is_not_kept_by_the_generator(self):
        log = [("gap",), ("door",)]
        found = ways(HOUSE, (0,), log)
        first = next(found)
        log.clear()
        self.assertEqual([first, *found], [(0, floor, floor) for floor in range(4)])


if __name__ == "__main__":
    unittest.main()

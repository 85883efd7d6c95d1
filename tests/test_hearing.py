"""Points 3 and 4, and what point 1 says of them: the rows of a log, and where the lift is behind them."""

import unittest

from liftheard.errors import InvalidLog, UnknownFloor
from liftheard.hearing import first_wrong, floors_behind
from liftheard.houses import House

HOUSE = House((3, 2, 4), (1, 3))
ALL = (0, 1, 2, 3)
BOTH = (floors_behind, first_wrong)


class HearingCase(unittest.TestCase):

    def assert_invalid(self, start, log, index, house=HOUSE):
        for function in BOTH:
            with self.subTest(function=function.__name__):
                with self.assertRaises(InvalidLog) as caught:
                    function(house, start, log)
                self.assertEqual(caught.exception.index, index)


class TestExamples(HearingCase):

    def test_values(self):
        log = [("go", 2), ("bell", False)]
        self.assertEqual([floors_behind(HOUSE, ALL, log), first_wrong(HOUSE, (0,), log)], [[2], 0])

    def test_error(self):
        self.assert_invalid((0,), [("go", 0)], 0)


class TestRows(HearingCase):

    def test_go_fits_upwards(self):
        self.assertEqual(floors_behind(HOUSE, (0,), [("go", 5)]), [2])

    def test_go_fits_downwards(self):
        self.assertEqual(floors_behind(HOUSE, (3,), [("go", 6)]), [1])

    def test_go_fits_both(self):
        self.assertEqual(floors_behind(House((3, 3), ()), (1,), [("go", 3)]), [0, 2])

    def test_go_fits_nowhere(self):
        self.assertEqual(floors_behind(HOUSE, (0,), [("go", 2)]), [])
        self.assertEqual(floors_behind(HOUSE, ALL, [("go", 81)]), [])

    def test_go_from_several_floors(self):
        self.assertEqual(floors_behind(HOUSE, ALL, [("go", 2)]), [1, 2])
        self.assertEqual(floors_behind(House((3, 3), ()), (0, 2), [("go", 3)]), [1])

    def test_bell_rings(self):
        self.assertEqual(floors_behind(HOUSE, ALL, [("bell", True)]), [1, 3])
        self.assertEqual(floors_behind(House((1, 1), ()), (0, 1, 2), [("bell", True)]), [])

    def test_bell_is_silent(self):
        self.assertEqual(floors_behind(HOUSE, ALL, [("bell", False)]), [0, 2])
        self.assertEqual(floors_behind(House((1,), (0, 1)), (0, 1), [("bell", False)]), [])

    def test_door_tells_nothing(self):
        self.assertEqual(floors_behind(HOUSE, (0, 3), [("door",)]), [0, 3])

    def test_look(self):
        self.assertEqual(floors_behind(HOUSE, (0, 1, 3), [("look", (1, 2, 3))]), [1, 3])
        self.assertEqual(floors_behind(HOUSE, (0, 1, 3), [("look", (3, 1))]), [1, 3])
        self.assertEqual(floors_behind(HOUSE, (0, 1, 3), [("look", ALL)]), [0, 1, 3])
        self.assertEqual(floors_behind(HOUSE, (0, 1, 3), [("look", ())]), [])

    def test_gap(self):
        self.assertEqual(floors_behind(HOUSE, (2,), [("gap",)]), [0, 1, 2, 3])

    def test_longer_logs(self):
        log = [("gap",), ("go", 4), ("bell", True), ("door",), ("go", 9), ("look", (0, 1)), ("bell", False)]
        self.assertEqual(floors_behind(HOUSE, (2,), log), [0])
        self.assertEqual(floors_behind(HOUSE, ALL, [("go", 3), ("go", 6)]), [3])
        self.assertEqual(floors_behind(HOUSE, ALL, [("go", 3), ("door",), ("go", 3)]), [0, 1])

    def test_nowhere_stays_nowhere(self):
        self.assertEqual(floors_behind(HOUSE, (0,), [("bell", True), ("gap",)]), [])


class TestStarts(HearingCase):

    def test_empty_log(self):
        self.assertEqual(floors_behind(HOUSE, (0, 2), []), [0, 2])
        self.assertIsNone(first_wrong(HOUSE, (0, 2), []))

    def test_empty_start(self):
        self.assertEqual(floors_behind(HOUSE, (), [("gap",)]), [])
        self.assertEqual(first_wrong(HOUSE, (), [("gap",), ("door",)]), 0)

    def test_empty_start_and_empty_log(self):
        self.assertEqual(floors_behind(HOUSE, (), []), [])
        self.assertIsNone(first_wrong(HOUSE, (), []))


class TestFirstWrong(HearingCase):

    def test_first_row(self):
        self.assertEqual(first_wrong(HOUSE, (0,), [("bell", True), ("go", 2)]), 0)

    def test_later_row(self):
        self.assertEqual(first_wrong(HOUSE, (0,), [("go", 3), ("bell", True), ("go", 3), ("bell", True)]), 3)
        self.assertEqual(first_wrong(HOUSE, (0,), [("gap",), ("look", ()), ("gap",), ("look", ())]), 1)

    def test_none(self):
        self.assertIsNone(first_wrong(HOUSE, (0,), [("go", 3), ("bell", True), ("go", 3), ("bell", False)]))


class TestErrors(HearingCase):

    def test_seconds(self):
        for seconds in (0, 82, -1, 10 ** 30):
            with self.subTest(seconds=seconds):
                self.assert_invalid(ALL, [("go", seconds)], 0)
        self.assertEqual(floors_behind(House((1, 1), ()), (0,), [("go", 1)]), [1])
        self.assertEqual(floors_behind(House((9,) * 9, ()), (0,), [("go", 81)]), [9])

    def test_unknown_floor_in_look(self):
        self.assert_invalid(ALL, [("look", (4,))], 0)
        self.assert_invalid(ALL, [("look", (-1, 0))], 0)
        self.assert_invalid(ALL, [("door",), ("look", (0, 1, 2, 3, 4))], 1)

    def test_first_of_several(self):
        self.assert_invalid(ALL, [("go", 9), ("go", 82), ("look", (7,)), ("go", 0)], 1)
        self.assert_invalid(ALL, [("gap",), ("door",), ("look", (7,)), ("go", 0)], 2)

    def test_unknown_floor_of_the_start(self):
        for function in BOTH:
            for start in ((4,), (-1,), (0, 1, 9)):
                with self.subTest(function=function.__name__, start=start), self.assertRaises(UnknownFloor):
                    function(HOUSE, start, [])

    def test_unknown_floor_ahead_of_invalid_log(self):
        for function in BOTH:
            with self.subTest(function=function.__name__), self.assertRaises(UnknownFloor):
                function(HOUSE, (0, 4), [("go", 0)])

    def test_invalid_row_behind_nowhere(self):
        self.assert_invalid((0,), [("bell", True), ("go", 82)], 1)
        self.assert_invalid((), [("look", ()), ("gap",), ("look", (4,))], 2)


class TestArguments(HearingCase):

    def test_arguments_are_unchanged(self):
        for function in BOTH:
            log = [("gap",), ("look", (1, 3)), ("go", 6)]
            function(HOUSE, (0, 1), log)
            self.assertEqual(log, [("gap",), ("look", (1, 3)), ("go", 6)])
        self.assertEqual((HOUSE.gaps, HOUSE.bells, HOUSE.floors), ((3, 2, 4), (1, 3), ALL))

    def test_arguments_are_unchanged_by_errors(self):
        for function in BOTH:
            log = [("gap",), ("go", 0)]
            with self.assertRaises(InvalidLog):
                function(HOUSE, (0, 1), log)
            self.assertEqual(log, [("gap",), ("go", 0)])

    def test_lists_are_new_each_time(self):
        for log in ([], [("door",)], [("gap",)]):
            found = floors_behind(HOUSE, ALL, log)
            found.append(99)
            self.assertEqual(floors_behind(HOUSE, ALL, log), [0, 1, 2, 3])
        self.assertEqual(HOUSE.floors, ALL)

    def test_asked_twice(self):
        log = [("go", 3), ("bell", True)]
        self.assertEqual(floors_behind(HOUSE, ALL, log), floors_behind(HOUSE, ALL, log))
        self.assertEqual(first_wrong(HOUSE, (2,), log), first_wrong(HOUSE, (2,), log))


if __name__ == "__main__":
    unittest.main()

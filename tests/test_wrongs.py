"""Point 19: bells that are wrong."""

import itertools
import unittest

from liftheard.errors import InvalidLog, InvalidNumber, NoWay, UnknownFloor
from liftheard.hearing import floors_behind
from liftheard.houses import House
from liftheard.wrongs import bell_judged, wrong_bells

HOUSE = House((3, 2, 4), (1, 3))
SMALL = House((3, 4), (1,))
GAP = ("gap",)
RINGS = ("bell", True)
SILENT = ("bell", False)


def heard_at(floor, *bells):
    return [GAP, ("look", (floor,)), *bells]


class TestExamples(unittest.TestCase):

    def test_values(self):
        log = [("go", 3), SILENT]
        told = [wrong_bells(SMALL, (0,), log, 2), bell_judged(SMALL, (0,), log, 1), bell_judged(SMALL, (0,), log, 0)]
        self.assertEqual(told, [[(1,)], "wrong", "unsure"])

    def test_error(self):
        with self.assertRaises(NoWay):
            bell_judged(SMALL, (0,), [("go", 5)], 1)


class TestWrongBells(unittest.TestCase):

    def assert_found(self, start, log, *expected):
        for most, found in enumerate(expected):
            with self.subTest(most=most):
                self.assertEqual(wrong_bells(HOUSE, start, log, most), found)

    def test_none_needed(self):
        self.assert_found((1,), [RINGS], [()], [()], [()], [()])
        self.assert_found((0, 1), [], [()], [()], [()], [()])
        self.assert_found((0, 1), [SILENT, GAP, RINGS], [()], [()], [()], [()])

    def test_one(self):
        self.assert_found((1,), [SILENT], [], [(1,)], [(1,)], [(1,)])
        self.assert_found((0,), [RINGS], [], [(0,)], [(0,)], [(0,)])
        self.assert_found((0,), [("go", 5), RINGS, ("go", 4), RINGS], [], [(2,)], [(2,)], [(2,)])

    def test_several_sets_of_one(self):
        self.assert_found((1, 3), [SILENT], [], [(1,), (3,)], [(1,), (3,)])
        self.assert_found((0, 2), [RINGS], [], [(0,), (2,)], [(0,), (2,)])

    def test_one_floor_all_the_time(self):
        self.assert_found((1,), [SILENT, GAP, ("look", (1,)), SILENT], [], [(1,)], [(1,)])

    def test_two(self):
        self.assert_found((0,), [RINGS] + heard_at(1, SILENT), [], [], [(0, 1)], [(0, 1)])
        self.assert_found((3,), [SILENT] + heard_at(2, RINGS), [], [], [(2, 3)], [(2, 3)])

    def test_several_sets_of_two(self):
        log = [RINGS, GAP, ("look", (1, 3)), SILENT]
        self.assert_found((0, 2), log, [], [], [(0, 1), (0, 3), (1, 2), (2, 3)], [(0, 1), (0, 3), (1, 2), (2, 3)])

    def test_three(self):
        log = [RINGS] + heard_at(1, SILENT) + heard_at(2, RINGS)
        self.assert_found((0,), log, [], [], [], [(0, 1, 2)])
        log = [RINGS] + heard_at(2, RINGS) + [GAP, ("look", (1, 3)), SILENT]
        self.assert_found((0,), log, [], [], [], [(0, 1, 2), (0, 2, 3)])

    def test_four_are_too_many(self):
        log = [RINGS] + heard_at(1, SILENT) + heard_at(2, RINGS) + heard_at(3, SILENT)
        self.assert_found((0,), log, [], [], [], [])

    def test_no_set_is_enough(self):
        self.assert_found((1,), [RINGS, SILENT], [], [], [], [])
        self.assert_found((0,), [("go", 1)], [], [], [], [])
        self.assert_found((), [], [], [], [], [])
        self.assert_found((), [RINGS], [], [], [], [])

    def test_by_houses_with_other_bells(self):
        log = [RINGS, ("go", 3), SILENT, GAP, SILENT, ("look", (1, 2))]
        for start in ((0,), (1,), (0, 1, 2, 3)):
            for most in range(4):
                found = []
                for count in range(most + 1):
                    for wrong in itertools.combinations(HOUSE.floors, count):
                        bells = tuple(floor for floor in HOUSE.floors if (floor in HOUSE.bells) != (floor in wrong))
                        if floors_behind(House(HOUSE.gaps, bells), start, log):
                            found.append(wrong)
                    if found:
                        break
                self.assertEqual(wrong_bells(HOUSE, start, log, most), found)

    def test_most(self):
        for most in (-1, 4, 10 ** 20):
            for start in ((1,), ()):
                with self.assertRaises(InvalidNumber):
                    wrong_bells(HOUSE, start, [RINGS], most)

    def test_fewer_floors_than_most(self):
        self.assertEqual(wrong_bells(House((2,), ()), (0,), [RINGS, SILENT], 3), [])

    def test_order_of_errors(self):
        for log in ([("go", 0)], []):
            with self.assertRaises(UnknownFloor):
                wrong_bells(HOUSE, (0, 4), log, 4)
        with self.assertRaises(InvalidLog) as caught:
            wrong_bells(HOUSE, (0,), [RINGS, ("look", (4,))], 4)
        self.assertEqual(caught.exception.index, 1)


class TestBellJudged(unittest.TestCase):

    def assert_words(self, start, log, *words):
        for floor, word in enumerate(words):
            with self.subTest(floor=floor):
                self.assertEqual(bell_judged(HOUSE, start, log, floor), word)

    def test_right(self):
        self.assert_words((1,), [RINGS], "unsure", "right", "unsure", "unsure")
        self.assert_words((0,), [SILENT, ("go", 5), SILENT], "right", "unsure", "right", "unsure")
        self.assert_words((1,), [RINGS, RINGS], "unsure", "right", "unsure", "unsure")

    def test_wrong(self):
        self.assert_words((1,), [SILENT], "unsure", "wrong", "unsure", "unsure")
        self.assert_words((0,), [RINGS, RINGS, ("go", 9), SILENT], "wrong", "unsure", "unsure", "wrong")

    def test_no_row_bell(self):
        self.assert_words((1,), [], "unsure", "unsure", "unsure", "unsure")
        self.assert_words((1,), [GAP, ("go", 9), ("door",)], "unsure", "unsure", "unsure", "unsure")

    def test_in_some_ways_only(self):
        self.assert_words((0, 1), [RINGS], "unsure", "unsure", "unsure", "unsure")
        self.assert_words((1,), [GAP, RINGS], "unsure", "unsure", "unsure", "unsure")
        self.assert_words((1,), [SILENT, GAP, RINGS], "unsure", "wrong", "unsure", "unsure")

    def test_right_in_some_ways_and_wrong_in_others(self):
        # From 0 to 1 or from 1 to 0: each of the two floors has a row in each way.
        self.assert_words((0, 1), [RINGS, ("go", 3), SILENT], "unsure", "unsure", "unsure", "unsure")

    def test_ways_in_which_a_bell_changes_do_not_count(self):
        # At floor 0 the second time the bell would have to be another one.
        log = [RINGS, GAP, ("look", (0, 2)), SILENT]
        self.assert_words((0,), log, "wrong", "unsure", "right", "unsure")
        log = [SILENT, GAP, ("look", (0, 2)), RINGS]
        self.assert_words((0,), log, "right", "unsure", "wrong", "unsure")

    def test_bell_both_right_and_wrong(self):
        for log in ([RINGS, SILENT], [SILENT, ("door",), RINGS], [RINGS, ("go", 3), ("go", 3), SILENT]):
            for floor in HOUSE.floors:
                with self.assertRaises(NoWay):
                    bell_judged(HOUSE, (1,), log, floor)

    def test_all_floors_wrong(self):
        log = [RINGS] + heard_at(1, SILENT) + heard_at(2, RINGS) + heard_at(3, SILENT)
        self.assert_words((0,), log, "wrong", "wrong", "wrong", "wrong")

    def test_all_floors_ringing_and_all_silent(self):
        log = [RINGS] + heard_at(1, RINGS) + heard_at(2, RINGS) + heard_at(3, RINGS)
        self.assert_words((0,), log, "wrong", "right", "wrong", "right")
        log = [SILENT] + heard_at(1, SILENT) + heard_at(2, SILENT) + heard_at(3, SILENT)
        self.assert_words((0,), log, "right", "wrong", "right", "wrong")

    def test_one_of_two_that_are_told_apart_later(self):
        log = [RINGS, ("go", 3), ("look", (1,))]
        self.assert_words((0, 1), log, "wrong", "unsure", "unsure", "unsure")

    def test_highest_house(self):
        house = House((1,) * 9, (9,))
        log = [SILENT, ("go", 9), RINGS, ("go", 9), SILENT] + [GAP, RINGS, GAP, SILENT] * 5
        self.assertEqual([bell_judged(house, (0,), log, floor) for floor in (0, 4, 9)], ["right", "unsure", "right"])

    def test_no_way(self):
        for start, log in (((), []), ((), [RINGS]), ((0,), [("go", 1)]), ((0,), [RINGS, ("look", (1,))])):
            with self.assertRaises(NoWay):
                bell_judged(HOUSE, start, log, 1)

    def test_order_of_errors(self):
        for floor in (0, 4):
            with self.assertRaises(UnknownFloor):
                bell_judged(HOUSE, (4,), [("go", 0)], floor)
            with self.assertRaises(InvalidLog) as caught:
                bell_judged(HOUSE, (0,), [RINGS, ("go", 0)], floor)
            self.assertEqual(caught.exception.index, 1)
        for floor in (-1, 4):
            for start, log in (((0,), [("go", 1)]), ((), []), ((1,), [RINGS])):
                with self.assertRaises(UnknownFloor):
                    bell_judged(HOUSE, start, log, floor)


class TestArguments(unittest.TestCase):

    def test_unchanged_and_new(self):
        log = [("go", 3), SILENT]
        for _ in range(2):
            found = wrong_bells(SMALL, (0,), log, 2)
            self.assertEqual([found, bell_judged(SMALL, (0,), log, 1)], [[(1,)], "wrong"])
            self.assertEqual((log, SMALL.bells), ([("go", 3), SILENT], (1,)))
            found.clear()


if __name__ == "__main__":
    unittest.main()

"""Points 17 and 18: looking at the right moment, and seconds that are heard wrongly."""

import unittest

from liftheard.errors import InvalidLog, InvalidNumber, TooMany, UnknownFloor
from liftheard.hearing import floors_behind
from liftheard.houses import House
from liftheard.looks import best_moment, fewest_looks, floors_at, floors_by, least_slack
from liftheard.ways import way_count, ways

HOUSE = House((3, 2, 4), (1, 3))
SMALL = House((3, 4), (1,))
EVEN = House((1, 1, 1), ())
TALL = House((1,) * 9, ())
GAP = ("gap",)
DOOR = ("door",)
LOGS = (
    [], [GAP], [("go", 2)], [("go", 9), ("bell", True)], [GAP, ("go", 9)], [DOOR, ("look", (0, 2)), GAP],
    [("go", 3), GAP, ("go", 4)], [("bell", False), ("go", 5), ("bell", False)], [("go", 1)], [("look", ()), DOOR],
)


class TestExamples(unittest.TestCase):

    def test_values(self):
        log = [GAP, ("bell", False)]
        told = [floors_at(SMALL, (0, 1), log, 1), best_moment(SMALL, (0, 1), log), fewest_looks(SMALL, (0, 1), log)]
        told += [floors_by(SMALL, (0,), [("go", 5)], 2), least_slack(SMALL, (0,), [("go", 5)])]
        self.assertEqual(told, [[0, 2], 0, 2, [1, 2], 2])


class TestFloorsAt(unittest.TestCase):

    def assert_moments(self, start, log, expected):
        self.assertEqual(len(expected), len(log) + 1)
        for moment, floors in enumerate(expected):
            self.assertEqual(floors_at(HOUSE, start, log, moment), floors, moment)

    def test_each_moment(self):
        self.assert_moments((0, 1, 2, 3), [("go", 2), ("bell", False)], [[1], [2], [2]])
        self.assert_moments((0, 2), [DOOR, GAP], [[0, 2], [0, 2], [0, 1, 2, 3]])

    def test_later_rows_take_floors_away(self):
        self.assertEqual(floors_behind(HOUSE, (0, 1), [GAP]), [0, 1, 2, 3])
        self.assert_moments((0, 1), [GAP, ("go", 9)], [[0, 1], [0, 3], [0, 3]])
        self.assert_moments((0, 1, 2, 3), [("go", 3), ("go", 6)], [[0], [1], [3]])
        self.assert_moments((1, 2), [GAP, ("look", (0, 3)), ("bell", True)], [[1, 2], [3], [3], [3]])

    def test_by_all_ways(self):
        for log in LOGS:
            found = list(ways(HOUSE, (0, 1, 3), log))
            for moment in range(len(log) + 1):
                floors = sorted({way[moment] for way in found})
                self.assertEqual(floors_at(HOUSE, (0, 1, 3), log, moment), floors)

    def test_last_moment(self):
        for log in LOGS:
            self.assertEqual(floors_at(HOUSE, (0, 2), log, len(log)), floors_behind(HOUSE, (0, 2), log))

    def test_empty_log(self):
        self.assert_moments((0, 3), [], [[0, 3]])

    def test_empty_start(self):
        self.assert_moments((), [], [[]])
        self.assert_moments((), [GAP], [[], []])

    def test_no_way(self):
        self.assert_moments((0, 1), [GAP, ("go", 1)], [[], [], []])
        self.assert_moments((0, 1), [("go", 1), GAP], [[], [], []])

    def test_long_log(self):
        log = [GAP] * 200
        self.assertEqual(floors_at(HOUSE, (2,), log, 200), [0, 1, 2, 3])
        self.assertEqual(floors_at(HOUSE, (2,), log, 0), [2])

    def test_moments_that_there_are_not(self):
        for start, log in (((0,), []), ((0, 1), [GAP, DOOR]), ((), []), ((0,), [("go", 1)])):
            for moment in (-1, len(log) + 1, 10 ** 20):
                with self.assertRaises(InvalidNumber):
                    floors_at(HOUSE, start, log, moment)


class TestBestMoment(unittest.TestCase):

    def test_one_moment(self):
        self.assertEqual(best_moment(HOUSE, (0,), []), 0)
        self.assertEqual(best_moment(HOUSE, (0, 1, 2), []), 0)

    def test_behind_a_gap(self):
        self.assertEqual(best_moment(HOUSE, (0,), [GAP]), 1)
        self.assertEqual(best_moment(HOUSE, (0, 1), [GAP]), 1)
        self.assertEqual(best_moment(HOUSE, (0,), [DOOR, DOOR, GAP]), 3)

    def test_ahead_of_a_look(self):
        self.assertEqual(best_moment(HOUSE, (0, 1), [GAP, ("look", (0,))]), 0)
        self.assertEqual(best_moment(HOUSE, (0,), [GAP, GAP, ("look", (0,))]), 1)

    def test_first_of_several_equal_ones(self):
        self.assertEqual(best_moment(HOUSE, (0, 1), [DOOR, DOOR]), 0)
        self.assertEqual(best_moment(HOUSE, (0,), [GAP, GAP, DOOR]), 1)
        self.assertEqual(best_moment(HOUSE, (0, 1, 2, 3), [GAP]), 0)
        self.assertEqual(best_moment(HOUSE, (2,), [DOOR]), 0)

    def test_worst_case(self):
        # Moment 0 leaves 1 or 3 ways, moment 1 two in each case.
        log = [("go", 1), ("go", 2), ("go", 1)]
        self.assertEqual(list(ways(EVEN, (0, 2), log)), [(0, 1, 3, 2), (2, 1, 3, 2), (2, 3, 1, 0), (2, 3, 1, 2)])
        self.assertEqual(best_moment(EVEN, (0, 2), log), 1)

    def test_no_way(self):
        self.assertIsNone(best_moment(HOUSE, (), []))
        self.assertIsNone(best_moment(HOUSE, (), [GAP]))
        self.assertIsNone(best_moment(HOUSE, (0, 1), [GAP, ("go", 1)]))

    def test_many_ways(self):
        self.assertEqual(best_moment(TALL, (0, 1), [GAP] * 300), 1)


class TestFewestLooks(unittest.TestCase):

    def test_no_way(self):
        self.assertEqual(fewest_looks(HOUSE, (), []), 0)
        self.assertEqual(fewest_looks(HOUSE, (0, 1), [GAP, ("go", 1)]), 0)

    def test_one_way(self):
        self.assertEqual(fewest_looks(HOUSE, (2,), []), 0)
        self.assertEqual(fewest_looks(HOUSE, (0, 1, 2, 3), [("go", 3), ("go", 6)]), 0)

    def test_two_ways(self):
        self.assertEqual(fewest_looks(HOUSE, (0, 2), []), 1)
        self.assertEqual(fewest_looks(HOUSE, (0,), [GAP, ("look", (1, 2)), GAP, ("look", (0,))]), 1)

    def test_one_look_for_many_ways(self):
        self.assertEqual(fewest_looks(TALL, tuple(range(10)), [DOOR]), 1)

    def test_independent_rows(self):
        for count in range(4):
            self.assertEqual(fewest_looks(SMALL, (0,), [GAP] * count), count)

    def test_moments_are_chosen_by_what_was_seen(self):
        # Moment 1 first; then moment 0 or moment 3, as floor 1 or floor 3 was seen.
        self.assertEqual(fewest_looks(EVEN, (0, 2), [("go", 1), ("go", 2), ("go", 1)]), 2)

    def test_best_moment_need_not_be_the_first_look(self):
        house = House((2, 1, 1, 1, 2), ())
        log = [("go", 2), ("go", 1), ("go", 2), ("go", 1)]
        found = [(0, 1, 2, 4, 3), (2, 4, 3, 1, 2), (4, 2, 1, 3, 2), (4, 2, 1, 3, 4), (4, 2, 3, 1, 2), (5, 4, 3, 1, 2)]
        self.assertEqual(list(ways(house, (0, 2, 4, 5), log)), found)
        self.assertEqual(best_moment(house, (0, 2, 4, 5), log), 0)
        # Moment 0 leaves three ways from floor 4, which no second look tells apart; moment 1 does better.
        self.assertEqual(fewest_looks(house, (0, 2, 4, 5), log), 2)

    def test_sixty_ways(self):
        start = (0, 1, 2, 3, 4, 5)
        self.assertEqual(way_count(TALL, start, [GAP]), 60)
        self.assertEqual(fewest_looks(TALL, start, [GAP]), 2)

    def test_sixty_one_ways(self):
        house = House((2, 1, 2, 1, 1, 1, 1, 1, 1), ())
        log = [("go", 1), ("go", 1), ("go", 2), ("go", 2)]
        self.assertEqual(way_count(house, house.floors, log), 61)
        with self.assertRaises(TooMany):
            fewest_looks(house, house.floors, log)

    def test_far_too_many_ways(self):
        with self.assertRaises(TooMany):
            fewest_looks(TALL, (0,), [GAP] * 8)

    def test_eight_rows(self):
        self.assertEqual(fewest_looks(HOUSE, (0, 1), [DOOR] * 8), 1)

    def test_nine_rows(self):
        for start in ((0, 1), (0,), ()):
            with self.assertRaises(TooMany):
                fewest_looks(HOUSE, start, [DOOR] * 9)
        with self.assertRaises(TooMany):
            fewest_looks(HOUSE, (0,), [("go", 1)] * 9)


class TestFloorsBy(unittest.TestCase):

    def test_slack_of_0(self):
        for log in LOGS:
            for start in ((0,), (0, 1, 2, 3), (), (1, 3)):
                self.assertEqual(floors_by(HOUSE, start, log, 0), floors_behind(HOUSE, start, log))

    def test_seconds_too_many(self):
        self.assertEqual(floors_by(HOUSE, (0,), [("go", 11)], 1), [])
        self.assertEqual(floors_by(HOUSE, (0,), [("go", 11)], 2), [3])
        self.assertEqual(floors_by(HOUSE, (0,), [("go", 11)], 5), [3])
        self.assertEqual(floors_by(HOUSE, (0,), [("go", 11)], 6), [2, 3])

    def test_seconds_too_few(self):
        self.assertEqual(floors_by(HOUSE, (0,), [("go", 1)], 1), [])
        self.assertEqual(floors_by(HOUSE, (0,), [("go", 1)], 2), [1])
        self.assertEqual(floors_by(HOUSE, (0,), [("go", 1)], 4), [1, 2])

    def test_on_both_sides(self):
        self.assertEqual(floors_by(HOUSE, (0,), [("go", 4)], 1), [1, 2])
        self.assertEqual(floors_by(HOUSE, (2,), [("go", 3)], 1), [1, 3])

    def test_never_the_floor_itself(self):
        for floor in HOUSE.floors:
            others = [other for other in HOUSE.floors if other != floor]
            self.assertEqual(floors_by(HOUSE, (floor,), [("go", 1)], 9), others)

    def test_slack_of_9(self):
        self.assertEqual(floors_by(HOUSE, (0,), [("go", 18)], 9), [3])
        self.assertEqual(floors_by(HOUSE, (0,), [("go", 19)], 9), [])

    def test_other_rows_are_as_they_are(self):
        for row in (GAP, DOOR, ("bell", True), ("bell", False), ("look", (0, 1)), ("look", ())):
            for slack in range(10):
                self.assertEqual(floors_by(HOUSE, (1, 2), [row], slack), floors_behind(HOUSE, (1, 2), [row]))

    def test_several_rows(self):
        log = [("go", 4), ("bell", True), ("go", 3)]
        self.assertEqual(floors_by(HOUSE, (0,), log, 0), [])
        self.assertEqual(floors_by(HOUSE, (0,), log, 1), [0, 2])
        self.assertEqual(floors_by(HOUSE, (0,), log, 5), [0, 1, 2, 3])

    def test_empty(self):
        self.assertEqual(floors_by(HOUSE, (), [GAP], 3), [])
        self.assertEqual(floors_by(HOUSE, (0, 2), [], 3), [0, 2])


class TestLeastSlack(unittest.TestCase):

    def test_none_needed(self):
        self.assertEqual(least_slack(HOUSE, (0,), []), 0)
        self.assertEqual(least_slack(HOUSE, (0,), [("go", 5), ("bell", False), GAP]), 0)

    def test_some_needed(self):
        self.assertEqual(least_slack(HOUSE, (0,), [("go", 4)]), 1)
        self.assertEqual(least_slack(HOUSE, (0,), [("go", 11)]), 2)
        self.assertEqual(least_slack(HOUSE, (0,), [("go", 7), ("bell", False)]), 2)
        # Behind a slack of 1 or more at floor 1 or 2; with 5 at floor 3, too.
        self.assertEqual(least_slack(HOUSE, (0,), [("go", 4), ("go", 11)]), 5)

    def test_most(self):
        self.assertEqual(least_slack(HOUSE, (0,), [("go", 18)]), 9)
        self.assertIsNone(least_slack(HOUSE, (0,), [("go", 19)]))
        self.assertIsNone(least_slack(HOUSE, (0,), [("go", 81)]))

    def test_none_is_enough(self):
        self.assertIsNone(least_slack(HOUSE, (), []))
        self.assertIsNone(least_slack(HOUSE, (), [GAP]))
        self.assertIsNone(least_slack(HOUSE, (1,), [("bell", False)]))
        self.assertIsNone(least_slack(HOUSE, (0,), [("go", 3), ("look", (0,))]))


def asked_all(start, log, moment=0, slack=0):
    return (
        lambda: floors_at(HOUSE, start, log, moment), lambda: best_moment(HOUSE, start, log),
        lambda: fewest_looks(HOUSE, start, log), lambda: floors_by(HOUSE, start, log, slack),
        lambda: least_slack(HOUSE, start, log),
    )


class TestErrors(unittest.TestCase):

    def test_floor_first(self):
        for start in ((4,), (-1, 0), (0, 1, 4)):
            for log in ([("go", 0)], [GAP] * 9, []):
                for ask in asked_all(start, log, 99, 99):
                    with self.assertRaises(UnknownFloor):
                        ask()

    def test_then_the_log(self):
        for log, index in (([("go", 82)], 0), ([DOOR] * 9 + [("look", (0, 4))], 9), ([("go", 1), ("go", 0)], 1)):
            for ask in asked_all((0, 1), log, -1, -1):
                with self.assertRaises(InvalidLog) as caught:
                    ask()
                self.assertEqual(caught.exception.index, index)

    def test_slack(self):
        for slack in (-1, 10, 10 ** 20):
            for start in ((0,), ()):
                with self.assertRaises(InvalidNumber):
                    floors_by(HOUSE, start, [], slack)


class TestArguments(unittest.TestCase):

    def test_unchanged_and_new(self):
        log = [GAP, ("go", 9)]
        for _ in range(2):
            told = [ask() for ask in asked_all((0, 1), log, 1, 1)]
            self.assertEqual(told, [[0, 3], 0, 2, [0, 3], 0])
            self.assertEqual(log, [GAP, ("go", 9)])
            told[0].clear()
            told[3].clear()

    def test_empty_log_gives_a_new_list(self):
        start = (0, 2)
        found = floors_by(HOUSE, start, [], 2)
        found.append(3)
        self.assertEqual(floors_by(HOUSE, start, [], 2), [0, 2])


if __name__ == "__main__":
    unittest.main()

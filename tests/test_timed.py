"""Point 10: how calls that come at seconds are served by a rule."""

import itertools
import unittest

from liftheard.errors import InvalidCalls, UnknownFloor, UnknownRule
from liftheard.houses import House
from liftheard.serving import served
from liftheard.timed import served_timed

HOUSE = House((3, 2, 4), (1, 3))
EVEN = House((3, 3, 3, 3), ())
RULES = ("first", "near", "sweep")
LAST = 10 ** 6


class TimedCase(unittest.TestCase):

    def assert_stops(self, begin, calls, first, near, sweep):
        for rule, stops in zip(RULES, (first, near, sweep)):
            with self.subTest(rule=rule):
                self.assertEqual(served_timed(HOUSE, rule, begin, calls), stops)

    def assert_each(self, begin, calls, stops):
        self.assert_stops(begin, calls, stops, stops, stops)

    def assert_invalid(self, calls, index):
        for rule in RULES:
            with self.subTest(calls=calls, rule=rule), self.assertRaises(InvalidCalls) as caught:
                served_timed(HOUSE, rule, 0, calls)
            self.assertEqual(caught.exception.index, index)


class TestExample(TimedCase):

    def test_value(self):
        self.assertEqual(served_timed(HOUSE, "sweep", 0, [(0, 2), (1, 1), (6, 0)]), [(2, 5), (1, 7), (0, 10)])

    def test_the_other_rules(self):
        self.assert_stops(0, [(0, 2), (1, 1), (6, 0)], *[[(2, 5), (1, 7), (0, 10)]] * 3)


class TestAtOnce(TimedCase):

    def test_no_calls(self):
        for begin in HOUSE.floors:
            self.assert_each(begin, [], [])

    def test_as_served_for_all_calls_of_second_0(self):
        for house in (HOUSE, EVEN):
            for count in range(5):
                for calls in itertools.permutations(house.floors, count):
                    timed = [(0, floor) for floor in calls]
                    for rule, begin in itertools.product(RULES, house.floors):
                        found = served_timed(house, rule, begin, timed)
                        self.assertEqual(found, served(house, rule, begin, calls), (rule, begin, calls))

    def test_all_calls_of_one_later_second(self):
        for rule, begin in itertools.product(RULES, HOUSE.floors):
            later = [(floor, second + 50) for floor, second in served(HOUSE, rule, begin, (3, 0, 2))]
            self.assertEqual(served_timed(HOUSE, rule, begin, [(50, 3), (50, 0), (50, 2)]), later)

    def test_one_floor_called_twice_in_one_second(self):
        self.assert_each(0, [(0, 2), (0, 2)], [(2, 5)])
        self.assert_stops(1, [(0, 3), (0, 0), (0, 3), (0, 0)], [(3, 6), (0, 15)], [(0, 3), (3, 12)], [(3, 6), (0, 15)])


class TestSecondOfAStop(TimedCase):

    def test_another_call_comes_in_the_second_of_a_stop(self):
        # At floor 2 in second 5; floor 3 is nearer than floor 0 then, and above.
        found = [(2, 5), (3, 9), (0, 18)]
        self.assert_stops(0, [(0, 2), (1, 0), (5, 3)], [(2, 5), (0, 10), (3, 19)], found, found)

    def test_one_second_ahead(self):
        found = [(2, 5), (3, 9), (0, 18)]
        self.assert_stops(0, [(0, 2), (1, 0), (4, 3)], [(2, 5), (0, 10), (3, 19)], found, found)

    def test_one_second_behind(self):
        self.assert_each(0, [(0, 2), (1, 0), (6, 3)], [(2, 5), (0, 10), (3, 19)])

    def test_alone_in_the_second_of_a_stop_and_around_it(self):
        self.assert_each(0, [(0, 2), (4, 0)], [(2, 5), (0, 10)])
        self.assert_each(0, [(0, 2), (5, 0)], [(2, 5), (0, 10)])
        self.assert_each(0, [(0, 2), (6, 0)], [(2, 5), (0, 11)])

    def test_of_the_floor_of_the_stop(self):
        self.assert_each(0, [(0, 2), (4, 2)], [(2, 5)])
        self.assert_each(0, [(0, 2), (5, 2)], [(2, 5)])
        self.assert_each(0, [(0, 2), (6, 2)], [(2, 5), (2, 6)])


class TestCalledAgain(TimedCase):

    def test_while_the_first_call_is_not_served(self):
        found = [(3, 9), (1, 15), (2, 17)]
        self.assert_stops(0, [(0, 3), (1, 1), (2, 2), (3, 1)], found, [(3, 9), (2, 13), (1, 15)],
                          [(3, 9), (2, 13), (1, 15)])

    def test_twice_on_the_way_to_it(self):
        self.assert_each(0, [(0, 3), (1, 3), (8, 3), (9, 3)], [(3, 9)])

    def test_behind_its_stop(self):
        found = [(1, 3), (2, 5), (1, 7)]
        self.assert_each(0, [(0, 1), (1, 2), (4, 1)], found)

    def test_behind_its_stop_it_is_a_new_call(self):
        self.assert_stops(0, [(0, 1), (1, 2), (2, 3), (4, 1)], [(1, 3), (2, 5), (3, 9), (1, 15)],
                          [(1, 3), (2, 5), (1, 7), (3, 13)], [(1, 3), (2, 5), (3, 9), (1, 15)])


class TestOnTheWay(TimedCase):

    def test_the_lift_does_not_stop_for_a_call_while_it_goes(self):
        self.assert_each(0, [(0, 3), (1, 1)], [(3, 9), (1, 15)])
        self.assert_each(0, [(0, 3), (1, 0), (2, 0)], [(3, 9), (0, 18)])

    def test_several_calls_while_it_goes(self):
        self.assert_stops(0, [(0, 3), (1, 0), (2, 2), (3, 1)], [(3, 9), (0, 18), (2, 23), (1, 25)],
                          [(3, 9), (2, 13), (1, 15), (0, 18)], [(3, 9), (2, 13), (1, 15), (0, 18)])

    def test_a_nearer_call_behind_the_lift(self):
        self.assert_stops(1, [(0, 3), (0, 0), (1, 1)], [(3, 6), (0, 15), (1, 18)], [(0, 3), (1, 6), (3, 12)],
                          [(3, 6), (1, 12), (0, 15)])


class TestWaiting(TimedCase):

    def test_for_the_first_call(self):
        self.assert_each(1, [(7, 3)], [(3, 13)])
        self.assert_each(1, [(7, 3), (100, 1)], [(3, 13), (1, 106)])

    def test_up_at_first_also_behind_waiting(self):
        self.assert_stops(2, [(7, 1), (7, 3)], [(1, 9), (3, 15)], [(1, 9), (3, 15)], [(3, 11), (1, 17)])

    def test_direction_is_kept_from_below(self):
        self.assert_stops(1, [(0, 2), (20, 1), (20, 3)], [(2, 2), (1, 22), (3, 28)], [(2, 2), (1, 22), (3, 28)],
                          [(2, 2), (3, 24), (1, 30)])

    def test_direction_is_kept_from_above(self):
        self.assert_stops(3, [(0, 2), (20, 3), (20, 1)], [(2, 4), (3, 24), (1, 30)], [(2, 4), (1, 22), (3, 28)],
                          [(2, 4), (1, 22), (3, 28)])

    def test_direction_turns_where_nothing_is_below(self):
        self.assertEqual(served_timed(HOUSE, "sweep", 3, [(0, 1), (20, 2), (40, 3), (40, 1)]),
                         [(1, 6), (2, 22), (3, 44), (1, 50)])

    def test_other_rules_keep_no_direction(self):
        calls = [(0, 2), (20, 3), (20, 1)]
        self.assertEqual(served_timed(EVEN, "near", 4, calls), [(2, 6), (1, 23), (3, 29)])
        self.assertEqual(served_timed(EVEN, "near", 0, calls), [(2, 6), (1, 23), (3, 29)])


class TestOwnFloor(TimedCase):

    def test_at_the_beginning(self):
        self.assert_each(2, [(0, 2)], [(2, 0)])
        self.assert_each(2, [(4, 2)], [(2, 4)])
        self.assert_stops(2, [(0, 3), (0, 2)], [(3, 4), (2, 8)], [(2, 0), (3, 4)], [(2, 0), (3, 4)])

    def test_where_it_waits(self):
        self.assert_each(0, [(0, 2), (9, 2), (12, 2)], [(2, 5), (2, 9), (2, 12)])

    def test_direction_stays(self):
        calls = [(0, 2), (20, 2), (21, 3), (21, 1)]
        self.assertEqual(served_timed(HOUSE, "sweep", 3, calls), [(2, 4), (2, 20), (1, 23), (3, 29)])
        self.assertEqual(served_timed(HOUSE, "sweep", 0, calls), [(2, 5), (2, 20), (3, 25), (1, 31)])

    def test_beside_others_that_come_with_it(self):
        self.assert_stops(0, [(0, 2), (20, 3), (20, 2)], [(2, 5), (3, 24), (2, 28)], [(2, 5), (2, 20), (3, 24)],
                          [(2, 5), (2, 20), (3, 24)])


class TestThirty(TimedCase):

    def test_each_one_alone(self):
        calls = [(100 * index, index % 4) for index in range(30)]
        seconds = [9] + [(9, 3, 2, 4)[index % 4] for index in range(1, 30)]
        stops = [(floor, second + more) for (second, floor), more in zip(calls, seconds)]
        self.assert_each(3, calls, stops)

    def test_all_of_one_second(self):
        self.assert_stops(1, [(6, index % 4) for index in range(30)], [(0, 9), (1, 12), (2, 14), (3, 18)],
                          [(1, 6), (2, 8), (3, 12), (0, 21)], [(1, 6), (2, 8), (3, 12), (0, 21)])

    def test_one_each_second(self):
        calls = [(index, 2 + index % 2) for index in range(30)]
        # Of two floors 4 seconds apart each stop serves what has come until then.
        stops = [(2, 5)] + [(2 + stop % 2, 5 + 4 * stop) for stop in range(1, 7)]
        stops += [(3, 33)]
        self.assertEqual(served_timed(HOUSE, "first", 0, calls), stops)

    def test_thirty_of_one_floor(self):
        self.assert_each(0, [(5, 0)] * 30, [(0, 5)])

    def test_one_too_many(self):
        for number in (31, 32, 60):
            self.assert_invalid([(5, 0)] * number, 30)
            self.assert_invalid([(100 * index, index % 4) for index in range(number)], 30)

    def test_a_wrong_one_among_the_first_thirty_is_told_first(self):
        for index, wrong in itertools.product((1, 15, 29), [(5, 4), (5, -1), (4, 0), (LAST + 1, 0)]):
            for number in (30, 31, 32):
                calls = [(5, 0)] * number
                calls[index] = wrong
                self.assert_invalid(calls, index)

    def test_the_thirty_first_is_told_ahead_of_a_wrong_one_behind_it(self):
        self.assert_invalid([(5, 0)] * 31 + [(4, 9)], 30)
        self.assert_invalid([(5, 0)] * 30 + [(4, 9)], 30)

    def test_rule_and_begin_are_told_ahead_of_one_too_many(self):
        with self.assertRaises(UnknownRule):
            served_timed(HOUSE, "last", 4, [(5, 0)] * 31)
        with self.assertRaises(UnknownFloor):
            served_timed(HOUSE, "near", 4, [(5, 0)] * 31)


class TestErrors(TimedCase):

    def test_seconds_that_fall(self):
        self.assert_invalid([(5, 1), (4, 2)], 1)
        self.assert_invalid([(0, 1), (7, 2), (7, 3), (6, 1)], 3)

    def test_seconds_that_do_not_fall(self):
        self.assert_each(0, [(5, 1), (5, 2)], [(1, 8), (2, 10)])

    def test_seconds_below_0(self):
        self.assert_invalid([(-1, 1)], 0)
        self.assert_invalid([(0, 1), (-1, 1)], 1)

    def test_last_second(self):
        self.assert_each(0, [(0, 1), (LAST, 3)], [(1, 3), (3, LAST + 6)])
        self.assert_invalid([(LAST + 1, 3)], 0)
        self.assert_invalid([(LAST, 3), (LAST + 1, 3)], 1)

    def test_unknown_floors_of_calls(self):
        self.assert_invalid([(0, 4)], 0)
        self.assert_invalid([(0, 3), (0, 0), (1, -1)], 2)

    def test_first_of_several(self):
        self.assert_invalid([(0, 3), (9, 4), (8, 1), (-1, 1)], 1)
        self.assert_invalid([(3, 3), (2, 4), (1, 4)], 1)
        self.assert_invalid([(3, 3), (4, 1), (3, 1), (LAST + 1, 4)], 2)

    def test_rules(self):
        for rule in ("", "Near", "last", "sweeps"):
            with self.assertRaises(UnknownRule):
                served_timed(HOUSE, rule, 0, [])

    def test_begin(self):
        for begin in (-1, 4):
            with self.assertRaises(UnknownFloor):
                served_timed(HOUSE, "near", begin, [])

    def test_order(self):
        with self.assertRaises(UnknownRule):
            served_timed(HOUSE, "last", 4, [(-1, 4)])
        with self.assertRaises(UnknownFloor):
            served_timed(HOUSE, "near", 4, [(-1, 4)])
        self.assert_invalid([(-1, 4)], 0)


class TestArguments(TimedCase):

    def test_calls_are_unchanged_and_lists_new(self):
        calls = [(0, 2), (1, 1), (6, 0)]
        for rule in RULES:
            for _ in range(2):
                stops = served_timed(HOUSE, rule, 0, calls)
                self.assertEqual(stops, [(2, 5), (1, 7), (0, 10)])
                self.assertEqual(calls, [(0, 2), (1, 1), (6, 0)])
                stops.clear()

    def test_calls_are_not_kept(self):
        calls = [(0, 2)]
        stops = served_timed(HOUSE, "near", 0, calls)
        calls.append((9, 3))
        self.assertEqual(stops, [(2, 5)])


if __name__ == "__main__":
    unittest.main()

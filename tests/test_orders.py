"""Point 11: the order of calls in which all wait least."""

import itertools
import unittest

from liftheard.errors import InvalidCalls, TooMany, UnknownFloor
from liftheard.houses import House
from liftheard.orders import least_waiting
from liftheard.serving import best_rules, served, waiting

HOUSE = House((3, 2, 4), (1, 3))
EVEN = House((3, 3, 3, 3), ())
HIGH = House((1, 2, 3, 4, 5, 6, 7), ())
RULES = ("first", "near", "sweep")


def sum_of(house, begin, order):
    second = total = 0
    for one, other in zip((begin, *order), order):
        second += sum(house.gaps[min(one, other):max(one, other)])
        total += second
    return total


class TestExamples(unittest.TestCase):

    def test_value(self):
        self.assertEqual(least_waiting(HOUSE, 1, (3, 0, 2)), (23, (0, 2, 3)))

    def test_error(self):
        with self.assertRaises(InvalidCalls) as caught:
            least_waiting(HOUSE, 0, (1, 1))
        self.assertEqual(caught.exception.index, 1)


class TestLeastWaiting(unittest.TestCase):

    def test_no_calls(self):
        self.assertEqual(least_waiting(HOUSE, 2, ()), (0, ()))

    def test_one(self):
        self.assertEqual(least_waiting(HOUSE, 2, (0,)), (5, (0,)))

    def test_own_floor(self):
        self.assertEqual(least_waiting(HOUSE, 2, (2,)), (0, (2,)))
        self.assertEqual(least_waiting(HOUSE, 2, (3, 1, 2)), (10, (2, 1, 3)))

    def test_order_of_the_calls_does_not_matter(self):
        for calls in itertools.permutations((0, 2, 3)):
            self.assertEqual(least_waiting(HOUSE, 1, calls), (23, (0, 2, 3)))

    def test_far_call_first(self):
        # 1 + 2 + 3 + 8 for three that are near together below, though the one above is as near at first.
        self.assertEqual(least_waiting(House((1, 1, 1, 2), ()), 3, (4, 2, 1, 0)), (14, (2, 1, 0, 4)))

    def test_least_of_several_orders(self):
        self.assertEqual(least_waiting(EVEN, 2, (3, 1)), (12, (1, 3)))
        self.assertEqual(least_waiting(EVEN, 2, (1, 3)), (12, (1, 3)))
        self.assertEqual(least_waiting(EVEN, 2, (4, 3, 1, 0)), (42, (1, 0, 3, 4)))

    def test_a_tuple_of_a_tuple(self):
        found = least_waiting(HOUSE, 1, (3, 0))
        self.assertEqual([type(found), type(found[1])], [tuple, tuple])

    def test_all_orders_of_up_to_four(self):
        for house in (HOUSE, EVEN, House((1, 1, 3, 2), ())):
            for count in range(5):
                for calls in itertools.combinations(house.floors, count):
                    for begin in house.floors:
                        best = min((sum_of(house, begin, order), order) for order in itertools.permutations(calls))
                        self.assertEqual(least_waiting(house, begin, calls), best)

    def test_six(self):
        calls = (7, 0, 5, 1, 3, 2)
        best = min((sum_of(HIGH, 4, order), order) for order in itertools.permutations(calls))
        self.assertEqual(least_waiting(HIGH, 4, calls), best)
        self.assertEqual(best, (93, (3, 2, 1, 0, 5, 7)))


class TestAgainstRules(unittest.TestCase):

    def test_never_above_the_sum_of_a_rule(self):
        for house in (HOUSE, EVEN, House((1, 1, 3, 2), ()), House((2, 3, 1, 1), ())):
            for calls in itertools.permutations(house.floors, 3):
                for begin in house.floors:
                    least, order = least_waiting(house, begin, calls)
                    sums = [waiting(house, rule, begin, calls) for rule in RULES]
                    self.assertLessEqual(least, min(sums))
                    self.assertEqual(waiting(house, "first", begin, order), least)
                    if least == min(sums):
                        rule = best_rules(house, begin, calls)[0]
                        self.assertLessEqual(order, tuple(floor for floor, _ in served(house, rule, begin, calls)))


class TestErrors(unittest.TestCase):

    def assert_invalid(self, house, calls, index):
        with self.assertRaises(InvalidCalls) as caught:
            least_waiting(house, 0, calls)
        self.assertEqual(caught.exception.index, index)

    def test_seven(self):
        with self.assertRaises(TooMany):
            least_waiting(HIGH, 0, (0, 1, 2, 3, 4, 5, 6))
        with self.assertRaises(TooMany):
            least_waiting(HIGH, 0, (7, 6, 5, 4, 3, 2, 1, 0))

    def test_calls_that_are_no_floors(self):
        self.assert_invalid(HOUSE, (4,), 0)
        self.assert_invalid(HOUSE, (0, 3, -1), 2)

    def test_doubled_ahead_of_too_many(self):
        self.assert_invalid(HIGH, (0, 1, 2, 3, 4, 5, 6, 0), 7)
        self.assert_invalid(HIGH, (0, 1, 2, 3, 3, 5, 6), 4)

    def test_no_floor_ahead_of_too_many(self):
        self.assert_invalid(HIGH, (0, 1, 2, 3, 4, 5, 8), 6)
        self.assert_invalid(HIGH, (0, 1, 2, 3, 4, 5, 6, -1), 7)

    def test_order(self):
        for begin in (-1, 8):
            for calls in ((), (9,), (0, 1, 2, 3, 4, 5, 6)):
                with self.assertRaises(UnknownFloor):
                    least_waiting(HIGH, begin, calls)


class TestArguments(unittest.TestCase):

    def test_asked_twice(self):
        for _ in range(2):
            self.assertEqual(least_waiting(HOUSE, 1, (3, 0, 2)), (23, (0, 2, 3)))


if __name__ == "__main__":
    unittest.main()

"""Points 9 and 12: how calls are served by a rule, how long they wait, and by which rules least."""

import unittest

from liftheard.errors import InvalidCalls, UnknownFloor, UnknownRule
from liftheard.houses import House
from liftheard.serving import best_rules, served, waiting

HOUSE = House((3, 2, 4), (1, 3))
EVEN = House((3, 3, 3, 3), ())
RULES = ("first", "near", "sweep")


class ServingCase(unittest.TestCase):

    def assert_invalid(self, begin, calls, index):
        asked = [(ask, (HOUSE, rule, begin, calls)) for rule in RULES for ask in (served, waiting)]
        for ask, arguments in asked + [(best_rules, (HOUSE, begin, calls))]:
            with self.assertRaises(InvalidCalls) as caught:
                ask(*arguments)
            self.assertEqual(caught.exception.index, index)


class TestExamples(ServingCase):

    def test_values(self):
        calls = (3, 0, 2)
        found = [served(HOUSE, "near", 1, calls), waiting(HOUSE, "first", 1, calls), best_rules(HOUSE, 1, calls)]
        self.assertEqual(found, [[(2, 2), (3, 6), (0, 15)], 41, ["near", "sweep"]])

    def test_error(self):
        with self.assertRaises(UnknownRule):
            served(HOUSE, "up", 0, ())


class TestEachRule(ServingCase):

    def test_no_calls(self):
        for rule in RULES:
            self.assertEqual(served(HOUSE, rule, 1, ()), [])

    def test_one_call(self):
        for rule in RULES:
            self.assertEqual(served(HOUSE, rule, 1, (3,)), [(3, 6)])
            self.assertEqual(served(HOUSE, rule, 3, (0,)), [(0, 9)])

    def test_call_on_its_own_floor(self):
        for rule in RULES:
            self.assertEqual(served(HOUSE, rule, 2, (2,)), [(2, 0)])

    def test_equally_near_ones(self):
        told = [served(EVEN, rule, 2, (3, 1)) for rule in RULES]
        self.assertEqual(told, [[(3, 3), (1, 9)], [(1, 3), (3, 9)], [(3, 3), (1, 9)]])

    def test_above_and_below(self):
        told = [served(HOUSE, rule, 1, (0, 3, 2)) for rule in RULES]
        self.assertEqual(told, [
            [(0, 3), (3, 12), (2, 16)], [(2, 2), (3, 6), (0, 15)], [(2, 2), (3, 6), (0, 15)],
        ])

    def test_upside_down_house_has_other_seconds(self):
        self.assertEqual(served(HOUSE.turned(), "first", 0, (1, 3)), [(1, 4), (3, 9)])


class TestFirst(ServingCase):

    def test_in_the_order_of_the_calls(self):
        self.assertEqual(served(HOUSE, "first", 1, (3, 0, 2)), [(3, 6), (0, 15), (2, 20)])
        self.assertEqual(served(HOUSE, "first", 1, (2, 0, 3)), [(2, 2), (0, 7), (3, 16)])

    def test_own_floor_in_its_turn(self):
        self.assertEqual(served(HOUSE, "first", 1, (3, 1, 2)), [(3, 6), (1, 12), (2, 14)])
        self.assertEqual(served(HOUSE, "first", 1, (1, 3)), [(1, 0), (3, 6)])


class TestNear(ServingCase):

    def test_nearest_by_seconds(self):
        self.assertEqual(served(HOUSE, "near", 2, (3, 1)), [(1, 2), (3, 8)])
        self.assertEqual(served(House((2, 2, 9), ()), "near", 2, (3, 0)), [(0, 4), (3, 17)])

    def test_nearest_from_each_stop_on(self):
        self.assertEqual(served(HOUSE, "near", 0, (3, 2, 1)), [(1, 3), (2, 5), (3, 9)])
        self.assertEqual(served(House((4, 3, 2), ()), "near", 1, (0, 3, 2)), [(2, 3), (3, 5), (0, 14)])

    def test_of_two_the_lower_one(self):
        self.assertEqual(served(EVEN, "near", 2, (3, 1)), [(1, 3), (3, 9)])
        self.assertEqual(served(EVEN, "near", 2, (1, 3)), [(1, 3), (3, 9)])
        self.assertEqual(served(EVEN, "near", 2, (4, 0)), [(0, 6), (4, 18)])

    def test_own_floor(self):
        self.assertEqual(served(HOUSE, "near", 1, (2, 1, 0)), [(1, 0), (2, 2), (0, 7)])


class TestSweep(ServingCase):

    def test_up_at_first_then_back(self):
        self.assertEqual(served(HOUSE, "sweep", 1, (0, 3, 2)), [(2, 2), (3, 6), (0, 15)])
        self.assertEqual(served(EVEN, "sweep", 2, (0, 1, 4, 3)), [(3, 3), (4, 6), (1, 15), (0, 18)])

    def test_up_though_down_is_nearer(self):
        self.assertEqual(served(HOUSE, "sweep", 2, (1, 3)), [(3, 4), (1, 10)])

    def test_nothing_above(self):
        self.assertEqual(served(HOUSE, "sweep", 3, (0, 2)), [(2, 4), (0, 9)])
        self.assertEqual(served(HOUSE, "sweep", 2, (0, 1)), [(1, 2), (0, 5)])

    def test_nothing_below(self):
        self.assertEqual(served(HOUSE, "sweep", 0, (3, 1)), [(1, 3), (3, 9)])

    def test_own_floor_first_and_the_direction_stays(self):
        self.assertEqual(served(HOUSE, "sweep", 2, (1, 3, 2)), [(2, 0), (3, 4), (1, 10)])
        self.assertEqual(served(HOUSE, "sweep", 2, (1, 2)), [(2, 0), (1, 2)])


class TestErrors(ServingCase):

    def test_calls_that_are_no_floors(self):
        self.assert_invalid(0, (4,), 0)
        self.assert_invalid(0, (1, 0, -1), 2)

    def test_calls_doubled(self):
        self.assert_invalid(0, (1, 1), 1)
        self.assert_invalid(0, (3, 0, 1, 3), 3)

    def test_first_of_several(self):
        self.assert_invalid(0, (3, 2, 2, 9, 3), 2)
        self.assert_invalid(0, (3, 9, 3, 3), 1)

    def test_order(self):
        for ask in (served, waiting):
            with self.assertRaises(UnknownRule):
                ask(HOUSE, "last", 4, (9,))
            with self.assertRaises(UnknownFloor):
                ask(HOUSE, "near", 4, (9,))
        with self.assertRaises(UnknownFloor):
            best_rules(HOUSE, -1, (9,))

    def test_unknown_rules(self):
        for rule in ("", "First", "firs", "near "):
            for ask in (served, waiting):
                with self.subTest(rule=rule), self.assertRaises(UnknownRule):
                    ask(HOUSE, rule, 0, ())

    def test_unknown_begin(self):
        for rule in RULES:
            for begin in (4, -1):
                for ask in (served, waiting):
                    with self.assertRaises(UnknownFloor):
                        ask(HOUSE, rule, begin, ())


class TestWaiting(ServingCase):

    def test_sums(self):
        self.assertEqual([waiting(HOUSE, rule, 2, (3, 1, 2)) for rule in RULES], [26, 10, 14])

    def test_no_calls_and_own_floor(self):
        for rule in RULES:
            self.assertEqual(waiting(HOUSE, rule, 2, ()), 0)
            self.assertEqual(waiting(HOUSE, rule, 2, (2,)), 0)


class TestBestRules(ServingCase):

    def test_one(self):
        self.assertEqual(best_rules(HOUSE, 2, (3, 1, 2)), ["near"])
        self.assertEqual(best_rules(House((5, 4, 1), ()), 1, (0, 3, 2)), ["near", "sweep"])

    def test_first_alone(self):
        # By seconds 3 + 4 + 5 + 12 instead of 2 + 7 + 8 + 9.
        self.assertEqual(best_rules(House((1, 1, 3, 2), ()), 3, (2, 1, 0, 4)), ["first"])

    def test_sweep_alone(self):
        self.assertEqual(best_rules(House((2, 3, 1, 1), ()), 1, (0, 2, 3, 4)), ["sweep"])

    def test_equal_sums(self):
        self.assertEqual(best_rules(HOUSE, 1, ()), ["first", "near", "sweep"])
        self.assertEqual(best_rules(HOUSE, 1, (3,)), ["first", "near", "sweep"])
        self.assertEqual(best_rules(HOUSE, 2, (1, 3)), ["first", "near"])


class TestArguments(ServingCase):

    def test_lists_are_new_and_calls_may_be_asked_twice(self):
        for _ in range(2):
            stops = served(HOUSE, "sweep", 1, (0, 3))
            rules = best_rules(HOUSE, 1, (0, 3))
            self.assertEqual((stops, rules), ([(3, 6), (0, 15)], ["first", "near"]))
            stops.clear()
            rules.clear()
            self.assertEqual(waiting(HOUSE, "sweep", 1, (0, 3)), 21)


if __name__ == "__main__":
    unittest.main()

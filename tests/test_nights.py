"""Points 13 and 14: calls that tell two rules apart, and the rules that some nights obey."""

import itertools
import unittest

from liftheard.errors import InvalidCalls, InvalidNumber, UnknownFloor, UnknownRule
from liftheard.houses import House
from liftheard.nights import difference, rules_of
from liftheard.serving import served

HOUSE = House((3, 2, 4), (1, 3))
EVEN = House((3, 3, 3, 3), ())
RULES = ("first", "near", "sweep")
PAIRS = tuple(itertools.combinations(RULES, 2))


def night_of(house, rule, begin, calls):
    return calls, tuple(floor for floor, _ in served(house, rule, begin, calls))


class TestExamples(unittest.TestCase):

    def test_values(self):
        found = [difference(HOUSE, "first", "near", 0, 2), rules_of(HOUSE, 0, [((1, 0), (0, 1))])]
        self.assertEqual(found, [(1, 0), ["near", "sweep"]])


class TestDifference(unittest.TestCase):

    def assert_pairs(self, house, begin, most, expected):
        for (one, other), calls in zip(PAIRS, expected):
            with self.subTest(one=one, other=other):
                self.assertEqual(difference(house, one, other, begin, most), calls)
                self.assertEqual(difference(house, other, one, begin, most), calls)

    def test_each_pair(self):
        self.assert_pairs(HOUSE, 0, 4, [(1, 0), (1, 0), None])
        self.assert_pairs(HOUSE, 1, 4, [(0, 1), (0, 1), (0, 3)])
        self.assert_pairs(HOUSE, 3, 4, [(0, 1), (0, 1), None])
        self.assert_pairs(EVEN, 3, 4, [(0, 1), (0, 1), (2, 4)])

    def test_shorter_ones_first(self):
        # In tuple order alone (0, 1, 3) would come ahead.
        self.assertNotEqual(served(HOUSE, "near", 2, (0, 1, 3)), served(HOUSE, "sweep", 2, (0, 1, 3)))
        self.assert_pairs(HOUSE, 2, 4, [(0, 1), (0, 1), (1, 3)])
        self.assert_pairs(HOUSE, 2, 3, [(0, 1), (0, 1), (1, 3)])
        self.assert_pairs(HOUSE, 2, 2, [(0, 1), (0, 1), (1, 3)])

    def test_first_of_all_calls(self):
        for house, begin in itertools.product((HOUSE, House((2, 3, 1, 1), ())), range(4)):
            for one, other in PAIRS:
                told = [calls for count in range(4) for calls in itertools.permutations(house.floors, count)
                        if served(house, one, begin, calls) != served(house, other, begin, calls)]
                self.assertEqual(difference(house, one, other, begin, 3), told[0] if told else None)

    def test_rule_with_itself(self):
        for rule in RULES:
            for most in range(5):
                self.assertIsNone(difference(HOUSE, rule, rule, 1, most))

    def test_none_of_so_many_floors(self):
        for most in (0, 1):
            self.assert_pairs(HOUSE, 1, most, [None, None, None])
        self.assert_pairs(House((5,), ()), 0, 4, [(1, 0), (1, 0), None])

    def test_most(self):
        for most in (-1, 5, 10 ** 20):
            for one, other in PAIRS + (("near", "near"),):
                with self.assertRaises(InvalidNumber):
                    difference(HOUSE, one, other, 1, most)

    def test_rules_ahead_of_floor_ahead_of_most(self):
        for one, other in (("last", "near"), ("near", "last"), ("", ""), ("First", "first")):
            for begin, most in ((0, 1), (4, 1), (0, 5), (-1, -1)):
                with self.assertRaises(UnknownRule):
                    difference(HOUSE, one, other, begin, most)
        for begin in (-1, 4):
            for most in (1, -1, 5):
                with self.assertRaises(UnknownFloor):
                    difference(HOUSE, "first", "near", begin, most)

    def test_asked_twice(self):
        for _ in range(2):
            self.assertEqual(difference(HOUSE, "near", "sweep", 2, 3), (1, 3))


class TestRulesOf(unittest.TestCase):

    def test_no_nights(self):
        self.assertEqual(rules_of(HOUSE, 2, []), ["first", "near", "sweep"])

    def test_night_without_calls(self):
        self.assertEqual(rules_of(HOUSE, 2, [((), ())]), ["first", "near", "sweep"])
        self.assertEqual(rules_of(HOUSE, 2, [((), (2,))]), [])

    def test_one_rule(self):
        self.assertEqual(rules_of(HOUSE, 2, [((0, 1, 3), (0, 1, 3))]), ["first"])
        self.assertEqual(rules_of(HOUSE, 2, [((0, 1, 3), (1, 0, 3))]), ["near"])
        self.assertEqual(rules_of(HOUSE, 2, [((0, 1, 3), (3, 1, 0))]), ["sweep"])

    def test_several_rules(self):
        self.assertEqual(rules_of(HOUSE, 2, [((1, 3), (1, 3))]), ["first", "near"])
        self.assertEqual(rules_of(HOUSE, 2, [((3, 1), (3, 1))]), ["first", "sweep"])
        self.assertEqual(rules_of(HOUSE, 2, [((0, 3), (3, 0))]), ["near", "sweep"])

    def test_rules_of_all_nights(self):
        nights = [((1, 3), (1, 3)), ((0, 3), (3, 0))]
        self.assertEqual(rules_of(HOUSE, 2, nights), ["near"])
        self.assertEqual(rules_of(HOUSE, 2, nights[::-1]), ["near"])

    def test_each_night_begins_at_the_same_floor(self):
        # By "sweep" the first night ends at floor 0, from where the second one would go otherwise.
        nights = [night_of(HOUSE, "sweep", 2, (0, 3)), night_of(HOUSE, "sweep", 2, (1, 3))]
        self.assertEqual(nights, [((0, 3), (3, 0)), ((1, 3), (3, 1))])
        self.assertEqual(rules_of(HOUSE, 2, nights), ["sweep"])

    def test_no_rule(self):
        self.assertEqual(rules_of(HOUSE, 2, [((0, 1, 3), (1, 3, 0))]), [])
        self.assertEqual(rules_of(HOUSE, 2, [((1, 3), (1, 3)), ((3, 1), (3, 1)), ((0, 3), (3, 0))]), [])

    def test_too_few_and_too_many_stops(self):
        for stops in ((), (3,), (3, 1, 1), (3, 3, 1), (1,), (3, 1, 0)):
            self.assertEqual(rules_of(HOUSE, 2, [((3, 1), stops)]), [], stops)
        self.assertEqual(rules_of(HOUSE, 2, [((), (1,))]), [])

    def test_nights_of_each_rule(self):
        for rule, begin in itertools.product(RULES, HOUSE.floors):
            nights = [night_of(HOUSE, rule, begin, calls) for calls in itertools.permutations(HOUSE.floors, 3)]
            told = [other for other in RULES
                    if nights == [night_of(HOUSE, other, begin, calls) for calls, _ in nights]]
            self.assertEqual(rules_of(HOUSE, begin, nights), told)
            self.assertIn(rule, told)


class TestNightErrors(unittest.TestCase):

    def assert_invalid(self, nights, index):
        with self.assertRaises(InvalidCalls) as caught:
            rules_of(HOUSE, 0, nights)
        self.assertEqual(caught.exception.index, index)

    def test_first_night(self):
        self.assert_invalid([((4,), (4,))], 0)
        self.assert_invalid([((0, 1, 0), ())], 0)

    def test_later_nights(self):
        good = ((1, 0), (0, 1))
        self.assert_invalid([good, ((0, 1, 2, -1), ())], 1)
        self.assert_invalid([good, good, ((3, 3), (3,)), ((4,), ())], 2)

    def test_also_if_an_earlier_night_obeys_no_rule(self):
        self.assert_invalid([((1, 0), (1,)), ((2, 2), (2, 2))], 1)

    def test_stops_are_not_calls(self):
        self.assertEqual(rules_of(HOUSE, 0, [((1,), (4,)), ((1,), (1, 1))]), [])

    def test_floor_ahead_of_calls(self):
        for begin in (-1, 4):
            for nights in ([], [((9,), ())]):
                with self.assertRaises(UnknownFloor):
                    rules_of(HOUSE, begin, nights)


class TestArguments(unittest.TestCase):

    def test_nights_are_unchanged_and_lists_new(self):
        nights = [((0, 3), (3, 0)), ((), ())]
        for _ in range(2):
            rules = rules_of(HOUSE, 2, nights)
            self.assertEqual(rules, ["near", "sweep"])
            self.assertEqual(nights, [((0, 3), (3, 0)), ((), ())])
            rules.clear()


if __name__ == "__main__":
    unittest.main()

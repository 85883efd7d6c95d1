"""Points 21 and 22: nights far out, and guesses at rules and beginnings."""

import itertools
import unittest

from liftheard.errors import InvalidCalls, InvalidNights, InvalidNumber, UnknownFloor, UnknownRule
from liftheard.farnights import first_night, floor_after, guesses, next_night, seconds_after
from liftheard.houses import House
from liftheard.serving import served
from liftheard.sounds import sounds

SMALL = House((3, 4), (1,))
HOUSE = House((3, 2, 4), (1, 3))
EVEN = House((2, 2, 2, 2), (0, 2))
RULES = ("first", "near", "sweep")
FAR = 10 ** 18


def walked(house, rule, begin, calls, count):
    """The floor behind so many nights, one by one, and the seconds of them all."""
    here, total = begin, 0
    for _ in range(count):
        stops = served(house, rule, here, calls)
        if stops:
            here, seconds = stops[-1]
            total += seconds
    return here, total


def heard(house, rule, begin, several):
    """The nights that are heard by a rule and a beginning, for several tuples of calls."""
    nights = []
    for calls in several:
        stops = tuple(floor for floor, _ in served(house, rule, begin, calls))
        nights.append((calls, sounds(house, begin, stops)))
        begin = (begin, *stops)[-1]
    return nights


def all_calls(house, most):
    return [calls for count in range(most + 1) for calls in itertools.permutations(house.floors, count)]


class TestExamples(unittest.TestCase):

    def test_values(self):
        self.assertEqual(floor_after(SMALL, "near", 0, (2, 1), FAR), 1)
        self.assertEqual(seconds_after(SMALL, "near", 0, (2, 1), FAR), 4000000000000000003)
        self.assertEqual(first_night(SMALL, "near", 0, (2, 1), 1), 2)
        nights = [((1, 0), [("go", 3), ("bell", True), ("door",), ("go", 3), ("bell", False), ("door",)])]
        self.assertEqual(guesses(SMALL, nights), [("first", 0)])
        self.assertEqual(next_night(SMALL, nights, [(1,), (2, 1)]), 0)

    def test_error(self):
        with self.assertRaises(InvalidNights) as caught:
            guesses(SMALL, [((0,), []), ((1, 1), [])])
        self.assertEqual(caught.exception.index, 1)


class TestCounts(unittest.TestCase):

    def assert_far(self, house, rule, begin, calls, count, expected):
        found = floor_after(house, rule, begin, calls, count), seconds_after(house, rule, begin, calls, count)
        self.assertEqual(found, expected, (house.gaps, rule, begin, calls, count))

    def test_small_counts_are_walked_one_by_one(self):
        for house, rule in itertools.product((SMALL, HOUSE, EVEN), RULES):
            for begin, calls in itertools.product(house.floors, all_calls(house, 3)):
                for count in (0, 1, 2, 3, 4, 7):
                    self.assert_far(house, rule, begin, calls, count, walked(house, rule, begin, calls, count))

    def test_great_counts_by_what_comes_again(self):
        # What comes again does so behind at most as many nights as there are floors, so that every turn of
        # 1 * 2 * 3 * 4 * 5 nights from there on is like the next one.
        turn, ahead = 120, 10
        for house, rule in itertools.product((SMALL, HOUSE, EVEN), RULES):
            for begin, calls in itertools.product(house.floors, ((2,), (2, 1), (0, 2), (1, 2, 0), (2, 0, 1))):
                for count in (10 ** 6, FAR - 1, FAR):
                    rounds, rest = divmod(count - ahead, turn)
                    here, begun = walked(house, rule, begin, calls, ahead)
                    _, each = walked(house, rule, here, calls, turn)
                    end, last = walked(house, rule, here, calls, rest)
                    self.assert_far(house, rule, begin, calls, count, (end, begun + rounds * each + last))

    def test_no_night(self):
        for rule in RULES:
            self.assert_far(HOUSE, rule, 2, (0, 3), 0, (2, 0))

    def test_no_calls(self):
        for rule, begin, count in itertools.product(RULES, range(4), (0, 1, 5, FAR)):
            self.assert_far(HOUSE, rule, begin, (), count, (begin, 0))

    def test_calls_where_the_lift_stands(self):
        for rule, count in itertools.product(RULES, (0, 1, 5, FAR)):
            self.assert_far(HOUSE, rule, 2, (2,), count, (2, 0))
        self.assert_far(HOUSE, "first", 1, (1, 3), 1, (3, 6))
        self.assert_far(HOUSE, "first", 1, (1, 3), 2, (3, 18))
        self.assert_far(HOUSE, "near", 1, (1, 3), 2, (1, 12))
        self.assert_far(HOUSE, "sweep", 1, (1, 3), 2, (1, 12))

    def test_each_night_goes_up_at_first(self):
        # Down again in the first night, and from the lowest floor up in the second one.
        self.assert_far(EVEN, "sweep", 2, (3, 1), 1, (1, 6))
        # It stands on the call of floor 1 there, and goes up to 3; and then from there down to 1.
        self.assert_far(EVEN, "sweep", 2, (3, 1), 2, (3, 10))
        self.assert_far(EVEN, "sweep", 2, (3, 1), 3, (1, 14))
        # From floor 1 it would go on down to 0 first, if the direction of the night before stayed.
        self.assert_far(EVEN, "sweep", 4, (0, 2, 1), 1, (0, 8))
        self.assert_far(EVEN, "sweep", 1, (0, 2), 1, (0, 6))

    def test_a_beginning_that_never_comes_again(self):
        self.assert_far(HOUSE, "first", 3, (0,), 1, (0, 9))
        self.assert_far(HOUSE, "first", 3, (0,), FAR, (0, 9))
        self.assert_far(HOUSE, "first", 3, (0, 1), FAR, (1, 12 + 6 * (FAR - 1)))

    def test_far_numbers_of_two_nights_that_take_turns(self):
        # From 0 to 2 by way of 1, and from 2 back to 1: then the nights go from 1 to 2 and from 2 to 1.
        for count, expected in ((1, (2, 7)), (2, (1, 11)), (3, (2, 15)), (4, (1, 19)), (FAR - 1, (2, 4 * FAR - 1))):
            self.assert_far(SMALL, "near", 0, (2, 1), count, expected)


class TestFirstNight(unittest.TestCase):

    def test_of_the_beginning(self):
        for rule, begin in itertools.product(RULES, range(4)):
            self.assertEqual(first_night(HOUSE, rule, begin, (0, 3), begin), 0)
            self.assertEqual(first_night(HOUSE, rule, begin, (), begin), 0)

    def test_of_a_floor_that_is_reached(self):
        self.assertEqual(first_night(HOUSE, "first", 0, (0, 3), 3), 1)
        self.assertEqual(first_night(SMALL, "near", 0, (2, 1), 2), 1)
        self.assertEqual(first_night(SMALL, "near", 0, (2, 1), 1), 2)

    def test_of_a_floor_that_is_never_reached(self):
        self.assertIsNone(first_night(HOUSE, "first", 0, (0, 3), 1))
        self.assertIsNone(first_night(HOUSE, "first", 0, (), 1))
        self.assertIsNone(first_night(SMALL, "near", 1, (2, 1), 0))

    def test_of_a_stop_in_a_night(self):
        self.assertIsNone(first_night(HOUSE, "first", 0, (2, 3), 2))

    def test_as_nights_walked_one_by_one(self):
        for house, rule in itertools.product((SMALL, HOUSE, EVEN), RULES):
            for begin, calls in itertools.product(house.floors, all_calls(house, 3)):
                floors = [walked(house, rule, begin, calls, count)[0] for count in range(8)]
                for floor in house.floors:
                    expected = floors.index(floor) if floor in floors else None
                    self.assertEqual(first_night(house, rule, begin, calls, floor), expected)


class TestErrorsOfNightsFarOut(unittest.TestCase):

    def assert_each(self, kind, rule, begin, calls, last, ask):
        with self.assertRaises(kind) as caught:
            ask(HOUSE, rule, begin, calls, last)
        return caught.exception

    def test_counts(self):
        for ask in (floor_after, seconds_after):
            for rule, calls in itertools.product(RULES, ((), (2, 0))):
                for count in (-1, FAR + 1, -FAR):
                    self.assert_each(InvalidNumber, rule, 1, calls, count, ask)

    def test_unknown_rule_first(self):
        for ask, rule in itertools.product((floor_after, seconds_after, first_night), ("", "Near", "up")):
            self.assert_each(UnknownRule, rule, 4, (4,), -1, ask)
            self.assert_each(UnknownRule, rule, 0, (), 0, ask)

    def test_then_the_beginning(self):
        for ask, begin in itertools.product((floor_after, seconds_after, first_night), (-1, 4)):
            self.assert_each(UnknownFloor, "near", begin, (4,), -1, ask)
            self.assert_each(UnknownFloor, "near", begin, (), 0, ask)

    def test_then_the_calls(self):
        for ask in (floor_after, seconds_after, first_night):
            for calls, index in (((4,), 0), ((0, -1), 1), ((0, 1, 0), 2)):
                self.assertEqual(self.assert_each(InvalidCalls, "near", 0, calls, -1, ask).index, index)
                self.assertEqual(self.assert_each(InvalidCalls, "near", 0, calls, 0, ask).index, index)

    def test_floor_last(self):
        for floor in (-1, 4):
            self.assert_each(UnknownFloor, "near", 0, (), floor, first_night)
            self.assert_each(UnknownFloor, "near", 0, (0, 1), floor, first_night)


class TestGuesses(unittest.TestCase):

    def test_no_nights(self):
        everything = [(rule, floor) for rule in RULES for floor in range(4)]
        self.assertEqual(guesses(HOUSE, []), everything)

    def test_one(self):
        log = [("go", 3), ("bell", False), ("door",), ("go", 9), ("bell", True), ("door",)]
        self.assertEqual(heard(HOUSE, "near", 1, [(3, 0)]), [((3, 0), log)])
        self.assertEqual(guesses(HOUSE, [((3, 0), log)]), [("near", 1)])

    def test_several_in_the_order_of_words_and_floors(self):
        self.assertEqual(guesses(HOUSE, [((), [])]), guesses(HOUSE, []))
        night = heard(HOUSE, "first", 0, [(3,)])
        self.assertEqual(guesses(HOUSE, night), [("first", 0), ("near", 0), ("sweep", 0)])
        even = House((2, 2), ())
        night = heard(even, "first", 0, [(1,)])
        self.assertEqual(guesses(even, night),
                         [(rule, floor) for rule in RULES for floor in (0, 2)])

    def test_none(self):
        self.assertEqual(guesses(HOUSE, [((3,), [("go", 9), ("bell", False), ("door",)])]), [])
        self.assertEqual(guesses(HOUSE, [((3,), [("go", 9), ("bell", True)])]), [])
        self.assertEqual(guesses(HOUSE, [((3,), [("go", 9), ("bell", True), ("door",), ("door",)])]), [])
        self.assertEqual(guesses(HOUSE, [((), [("door",)])]), [])

    def test_a_log_that_no_lift_can_have_made(self):
        self.assertEqual(guesses(HOUSE, [((3,), [("go", 80), ("bell", True), ("door",)])]), [])
        self.assertEqual(guesses(HOUSE, [((3,), [("look", ())])]), [])

    def test_a_log_in_which_more_is_seen(self):
        self.assertEqual(guesses(HOUSE, [((3,), [("go", 9), ("bell", True), ("door",), ("look", (3,))])]), [])
        self.assertEqual(guesses(HOUSE, [((3,), [("gap",), ("bell", True), ("door",)])]), [])

    def test_calls_of_the_floor_alone(self):
        night = ((2,), [("bell", False), ("door",)])
        self.assertEqual(guesses(HOUSE, [night]), [(rule, 2) for rule in RULES])
        self.assertEqual(guesses(HOUSE, [((2,), [])]), [])
        self.assertEqual(guesses(HOUSE, [night, night]), [(rule, 2) for rule in RULES])

    def test_nights_go_on_where_the_one_before_ended(self):
        nights = [((3,), [("go", 6), ("bell", True), ("door",)]), ((1,), [("go", 6), ("bell", True), ("door",)])]
        self.assertEqual(guesses(HOUSE, nights), [(rule, 1) for rule in RULES])
        again = [nights[0], nights[0]]
        self.assertEqual(guesses(HOUSE, again), [])

    def test_a_night_without_calls_keeps_the_floor(self):
        nights = [((3,), [("go", 6), ("bell", True), ("door",)]), ((), []), ((3,), [("bell", True), ("door",)])]
        self.assertEqual(guesses(HOUSE, nights), [(rule, 1) for rule in RULES])

    def test_as_all_guesses_tried(self):
        for house, rule, begin in itertools.product((SMALL, EVEN), RULES, range(3)):
            for several in itertools.product(all_calls(house, 2), ((), (1, 2), (0,))):
                nights = heard(house, rule, begin, several)
                expected = [(other, floor) for other in RULES for floor in house.floors
                            if heard(house, other, floor, several) == nights]
                self.assertEqual(guesses(house, nights), expected)
                self.assertIn((rule, begin), expected)


class TestNextNight(unittest.TestCase):

    def test_the_first_of_equal_ones(self):
        self.assertEqual(next_night(HOUSE, [], [(0,), (0,), (0,)]), 0)
        self.assertEqual(next_night(HOUSE, [], [(), (0,), (0,)]), 1)

    def test_no_options(self):
        self.assertIsNone(next_night(HOUSE, [], []))
        self.assertIsNone(next_night(HOUSE, [], ()))

    def test_no_guesses(self):
        self.assertIsNone(next_night(HOUSE, [((3,), [])], [(0,), (1, 2)]))

    def test_one_guess(self):
        nights = heard(HOUSE, "near", 1, [(3, 0)])
        self.assertEqual(next_night(HOUSE, nights, [(), (0, 3), (3, 0)]), 0)

    def test_fewest_in_the_worst_case(self):
        # One call tells the beginnings apart, but no rules.
        self.assertEqual(next_night(HOUSE, [], [(), (3,), (3, 0)]), 1)
        nights = heard(HOUSE, "first", 2, [(2,)])
        self.assertEqual(guesses(HOUSE, nights), [(rule, 2) for rule in RULES])
        # By these, three guesses are left in the worst case, then two, then one.
        self.assertEqual(next_night(HOUSE, nights, [(3,), (1, 3), (0, 1, 3), (0, 3, 1)]), 2)
        self.assertEqual(next_night(HOUSE, nights, [(3,), (1, 3)]), 1)

    def test_as_all_parts_counted(self):
        options = [(), (0,), (2, 1), (1, 0), (0, 2, 1)]
        for house, rule, begin in itertools.product((SMALL, HOUSE, EVEN), RULES, range(3)):
            for several in itertools.product(((), (1,), (2, 0)), ((), (1, 2))):
                nights = heard(house, rule, begin, several)
                worst = []
                for option in options:
                    logs = [heard(house, other, floor, (*several, option)) for other, floor in guesses(house, nights)]
                    worst.append(max(logs.count(log) for log in logs))
                self.assertEqual(next_night(house, nights, options), worst.index(min(worst)))


class TestErrorsOfGuesses(unittest.TestCase):

    WRONG = (((4,), []), ((0, -1), []), ((1, 1), []), ((), [("go", 0)]), ((), [("go", 82)]), ((), [("look", (4,))]),
             ((1,), [("go", 3), ("bell", True), ("look", (0, -1))]))

    def test_nights(self):
        right = ((1,), [("go", 81), ("look", ()), ("gap",)])
        for wrong, count in itertools.product(self.WRONG, range(3)):
            for ask in (guesses, lambda house, nights: next_night(house, nights, [(9,)])):
                with self.assertRaises(InvalidNights) as caught:
                    ask(HOUSE, [right] * count + [wrong, right, ((8,), [])])
                self.assertEqual(caught.exception.index, count)

    def test_options(self):
        for nights in ([], [((3,), [])], heard(HOUSE, "near", 2, [(3, 0)])):
            for wrong, count in itertools.product(((4,), (0, -1), (1, 1), (0, 1, 2, 0)), range(3)):
                with self.assertRaises(InvalidCalls) as caught:
                    next_night(HOUSE, nights, [(1, 2)] * count + [wrong, (), (7,)])
                self.assertEqual(caught.exception.index, count)


class TestArguments(unittest.TestCase):

    def test_unchanged_and_lists_new(self):
        nights = [((3, 0), [("go", 4), ("bell", True), ("door",), ("go", 9), ("bell", False), ("door",)])]
        options = [(0, 1), (2,)]
        for _ in range(2):
            found = guesses(HOUSE, nights)
            self.assertEqual(found, [("first", 2), ("near", 2), ("sweep", 2)])
            self.assertEqual(next_night(HOUSE, nights, options), 0)
            self.assertEqual((len(nights), len(nights[0][1]), options), (1, 6, [(0, 1), (2,)]))
            self.assertEqual(guesses(HOUSE, nights), found)
            found.clear()


if __name__ == "__main__":
    unittest.main()

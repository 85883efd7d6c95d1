"""Point 25: a lift that serves calls as they come."""

import itertools
import random
import unittest

from liftheard.controls import Control
from liftheard.errors import NoCall, UnknownFloor, UnknownRule
from liftheard.houses import House
from liftheard.serving import served
from liftheard.sounds import sounds

SMALL = House((3, 4), (1,))
HOUSE = House((3, 2, 4), (1, 3))
EVEN = House((2, 2, 2, 2), (0, 2))
RULES = ("first", "near", "sweep")


def called(house, rule, begin, *floors):
    control = Control(house, rule, begin)
    for floor in floors:
        control.call(floor)
    return control


def seen(control):
    return control.here, control.clock, control.open_calls, control.is_up, control.heard()


class ControlCase(unittest.TestCase):

    def assert_steps(self, control, *steps):
        """Serve step by step: each one is a floor, its seconds, and here, clock, open calls and direction behind it."""
        clock = control.clock
        for floor, seconds, open_calls, is_up in steps:
            self.assertEqual(control.serve(), (floor, seconds))
            clock += seconds
            self.assertEqual(seen(control)[:4], (floor, clock, open_calls, is_up))

    def assert_nothing_changes(self, kind, control, ask):
        before = seen(control)
        with self.assertRaises(kind):
            ask()
        self.assertEqual(seen(control), before)


class TestExamples(ControlCase):

    def test_values(self):
        control = Control(SMALL, "sweep", 1)
        told = [control.call(0), control.call(2), control.serve(), control.open_calls, control.is_up]
        told += [control.serve_all(), control.is_up, control.clock, control.heard()[:3]]
        self.assertEqual(told, [1, 2, (2, 4), (0,), True, [(0, 7)], False, 11,
                                [("go", 4), ("bell", False), ("door",)]])

    def test_error(self):
        with self.assertRaises(NoCall):
            Control(SMALL, "near", 1).serve()


class TestCalls(ControlCase):

    def test_at_first(self):
        for rule, begin in itertools.product(RULES, range(4)):
            self.assertEqual(seen(Control(HOUSE, rule, begin)), (begin, 0, (), True, []))

    def test_in_the_order_in_which_they_came(self):
        control = Control(HOUSE, "near", 1)
        self.assertEqual([control.call(floor) for floor in (3, 0, 2)], [1, 2, 3])
        self.assertEqual(control.open_calls, (3, 0, 2))
        self.assertIs(type(control.open_calls), tuple)

    def test_of_a_floor_that_is_called_already(self):
        control = Control(HOUSE, "first", 1)
        self.assertEqual([control.call(floor) for floor in (3, 0, 3, 0, 3)], [1, 2, 2, 2, 2])
        self.assertEqual(control.open_calls, (3, 0))
        self.assertEqual(control.serve_all(), [(3, 6), (0, 9)])

    def test_of_the_floor_where_the_lift_stands(self):
        for rule in RULES:
            control = called(HOUSE, rule, 1, 1)
            self.assertEqual(seen(control), (1, 0, (1,), True, []))
            self.assert_steps(control, (1, 0, (), True))
            self.assertEqual(control.heard(), [("bell", True), ("door",)])

    def test_again_behind_the_stop(self):
        control = called(HOUSE, "near", 1, 3)
        self.assert_steps(control, (3, 6, (), True))
        self.assertEqual(control.call(3), 1)
        self.assert_steps(control, (3, 0, (), True))
        self.assertEqual(control.heard(), sounds(HOUSE, 1, (3, 3)))

    def test_of_a_floor_that_the_house_does_not_have(self):
        controls = Control(HOUSE, "first", 0), called(HOUSE, "sweep", 2, 3, 0)
        for control, floor in itertools.product(controls, (-1, 4)):
            self.assert_nothing_changes(UnknownFloor, control, lambda: control.call(floor))


class TestServe(ControlCase):

    def test_first(self):
        control = called(HOUSE, "first", 1, 3, 0, 1, 2)
        self.assert_steps(control, (3, 6, (0, 1, 2), True), (0, 9, (1, 2), True), (1, 3, (2,), True), (2, 2, (), True))

    def test_near(self):
        control = called(HOUSE, "near", 1, 3, 0, 2)
        self.assert_steps(control, (2, 2, (3, 0), True), (3, 4, (0,), True), (0, 9, (), True))

    def test_near_of_two_the_lower_one(self):
        self.assert_steps(called(EVEN, "near", 2, 3, 1), (1, 2, (3,), True), (3, 4, (), True))

    def test_sweep_up_and_down(self):
        control = called(EVEN, "sweep", 2, 1, 3, 0, 4)
        self.assert_steps(control, (3, 2, (1, 0, 4), True), (4, 2, (1, 0), True), (1, 6, (0,), False),
                          (0, 2, (), False))
        control.call(0)
        control.call(3)
        self.assert_steps(control, (0, 0, (3,), False), (3, 6, (), True))

    def test_sweep_down_where_nothing_is_above(self):
        self.assert_steps(called(EVEN, "sweep", 2, 0, 1), (1, 2, (0,), False), (0, 2, (), False))

    def test_sweep_goes_on_down_for_calls_between_stops(self):
        control = called(EVEN, "sweep", 4, 2)
        self.assert_steps(control, (2, 4, (), False))
        control.call(3)
        control.call(1)
        self.assert_steps(control, (1, 2, (3,), False), (3, 4, (), True))

    def test_sweep_goes_on_up_for_calls_between_stops(self):
        control = called(EVEN, "sweep", 1, 2)
        self.assert_steps(control, (2, 2, (), True))
        control.call(1)
        control.call(3)
        self.assert_steps(control, (3, 2, (1,), True), (1, 4, (), False))

    def test_sweep_keeps_its_direction_at_its_own_floor(self):
        control = called(EVEN, "sweep", 3, 2)
        control.serve()
        for floor in (3, 2, 1):
            control.call(floor)
        self.assert_steps(control, (2, 0, (3, 1), False), (1, 2, (3,), False))

    def test_first_serves_its_own_floor_in_the_order_of_the_calls(self):
        self.assert_steps(called(HOUSE, "first", 1, 3, 1), (3, 6, (1,), True), (1, 6, (), True))

    def test_calls_between_stops(self):
        control = called(HOUSE, "near", 0, 3)
        control.call(1)
        self.assert_steps(control, (1, 3, (3,), True))
        self.assertEqual(control.call(0), 2)
        self.assert_steps(control, (0, 3, (3,), True))
        self.assertEqual(control.call(2), 2)
        self.assert_steps(control, (2, 5, (3,), True), (3, 4, (), True))

    def test_direction_changes_by_sweep_alone(self):
        for rule in ("first", "near"):
            self.assert_steps(called(HOUSE, rule, 3, 0), (0, 9, (), True))
            self.assert_steps(called(HOUSE, rule, 3, 1, 0), (1, 6, (0,), True), (0, 3, (), True))

    def test_no_call(self):
        for rule in RULES:
            control = Control(HOUSE, rule, 1)
            self.assert_nothing_changes(NoCall, control, control.serve)
            control.call(0)
            control.serve()
            self.assert_nothing_changes(NoCall, control, control.serve)


class TestServeAll(ControlCase):

    def test_none(self):
        for rule in RULES:
            control = Control(HOUSE, rule, 1)
            self.assertEqual(control.serve_all(), [])
            self.assertEqual(seen(control), (1, 0, (), True, []))

    def test_several(self):
        for rule, stops in (
            ("first", [(3, 6), (0, 9), (2, 5)]), ("near", [(2, 2), (3, 4), (0, 9)]),
            ("sweep", [(2, 2), (3, 4), (0, 9)]),
        ):
            control = called(HOUSE, rule, 1, 3, 0, 2)
            self.assertEqual(control.serve_all(), stops)
            self.assertEqual((control.here, control.clock), (stops[-1][0], sum(seconds for _, seconds in stops)))
            self.assertEqual(control.open_calls, ())
            self.assertEqual(control.serve_all(), [])

    def test_as_all_calls_at_once(self):
        for house, rule, count in itertools.product((SMALL, HOUSE, EVEN), RULES, range(4)):
            for begin, calls in itertools.product(house.floors, itertools.permutations(house.floors, count)):
                control = called(house, rule, begin, *calls)
                clock, stops = 0, []
                for floor, seconds in control.serve_all():
                    clock += seconds
                    stops.append((floor, clock))
                self.assertEqual(stops, served(house, rule, begin, calls))
                self.assertEqual(control.heard(), sounds(house, begin, tuple(floor for floor, _ in stops)))


class TestHeard(ControlCase):

    def test_at_first(self):
        for rule in RULES:
            self.assertEqual(called(HOUSE, rule, 1, 1, 2).heard(), [])

    def test_behind_several_stops(self):
        control = called(SMALL, "first", 1, 0, 1)
        control.serve()
        self.assertEqual(control.heard(), [("go", 3), ("bell", False), ("door",)])
        control.serve()
        control.call(1)
        self.assertEqual(control.heard(), sounds(SMALL, 1, (0, 1)))
        control.serve()
        self.assertEqual(control.heard(), sounds(SMALL, 1, (0, 1, 1)))

    def test_it_is_new_each_time(self):
        control = called(SMALL, "first", 1, 0)
        control.serve()
        control.heard().clear()
        self.assertEqual(control.heard(), [("go", 3), ("bell", False), ("door",)])

    def test_of_steps_by_chance(self):
        for seed in range(40):
            chosen = random.Random(seed)
            house, rule = chosen.choice((SMALL, HOUSE, EVEN)), chosen.choice(RULES)
            begin = chosen.choice(house.floors)
            control, stops, clock = Control(house, rule, begin), [], 0
            for _ in range(30):
                here, ahead, is_up = control.here, control.open_calls, control.is_up
                if chosen.random() < 0.5:
                    floor = chosen.choice(house.floors)
                    behind = ahead if floor in ahead else (*ahead, floor)
                    self.assertEqual(control.call(floor), len(behind))
                    self.assertEqual((control.open_calls, control.here, control.is_up), (behind, here, is_up))
                elif ahead:
                    floor, seconds = control.serve()
                    self.assertEqual((control.here, seconds), (floor, house.seconds(here, floor)))
                    self.assertEqual(control.open_calls, tuple(call for call in ahead if call != floor))
                    if is_up:
                        self.assertEqual(floor, served(house, rule, here, ahead)[0][0])
                    elif floor > here:
                        self.assertTrue(min(ahead) > here)
                    stops.append(floor)
                    clock += seconds
                self.assertEqual((control.clock, control.heard()), (clock, sounds(house, begin, tuple(stops))))


class TestErrors(ControlCase):

    def test_rule_ahead_of_floor(self):
        for rule in ("", "Near", "up"):
            for begin in (0, -1, 4):
                with self.assertRaises(UnknownRule):
                    Control(HOUSE, rule, begin)

    def test_beginning(self):
        for rule, begin in itertools.product(RULES, (-1, 4)):
            with self.assertRaises(UnknownFloor):
                Control(HOUSE, rule, begin)


class TestObjects(ControlCase):

    def test_properties_are_not_assigned(self):
        control = Control(HOUSE, "near", 1)
        for name in ("here", "clock", "open_calls", "is_up"):
            with self.assertRaises(AttributeError):
                setattr(control, name, 0)

    def test_two_lifts_of_one_house(self):
        one, other = called(HOUSE, "near", 1, 3), Control(HOUSE, "near", 1)
        one.serve()
        self.assertEqual(seen(other), (1, 0, (), True, []))

    def test_lists_are_new(self):
        control = called(HOUSE, "near", 1, 3, 0)
        stops = control.serve_all()
        stops.clear()
        self.assertEqual((control.here, control.heard()), (3, sounds(HOUSE, 1, (0, 3))))


if __name__ == "__main__":
    unittest.main()

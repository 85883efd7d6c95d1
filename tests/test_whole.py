"""Point 1 over the whole program: arguments are unchanged and not kept, lists are new, asking twice tells the same."""

import copy
import importlib
import types
import unittest

from liftheard.controls import Control
from liftheard.daybooks import Daybook
from liftheard.errors import LiftError
from liftheard.houses import House
from liftheard.listeners import Listener, Trial
from tests.test_form import INTERFACE

HOUSE = House((3, 2, 4), (1, 3))
POOL = (HOUSE, House((3, 2), ()), House((2, 3, 4), (0,)))
ALL = (0, 1, 2, 3)
LOG = [("gap",), ("go", 2), ("bell", True), ("look", (0, 1)), ("door",)]
STOPS = [("go", 3), ("bell", False), ("door",), ("go", 9), ("bell", True), ("door",)]
NIGHTS = [((3, 0), STOPS)]
TEXT = "gaps 3 2 4\nbells 1 3\ngap\ngo 2\nbell yes\nlook 0 1\ndoor"
VALUES = [76, 3, 3, 2, 4, 2, 1, 3, 5, 5, 0, 2, 1, 4, 2, 0, 1, 3, 110]
# For each function of the interface: arguments of calls that return, and of calls that raise an error.
CALLS = {
    "floors_behind": ([(HOUSE, ALL, LOG), (HOUSE, (), LOG)], [(HOUSE, (4,), LOG), (HOUSE, ALL, LOG + [("go", 0)])]),
    "first_wrong": ([(HOUSE, ALL, LOG), (HOUSE, (0,), [("go", 7)])], [(HOUSE, (4,), LOG)]),
    "ways": ([(HOUSE, ALL, LOG)], []),
    "way_count": ([(HOUSE, ALL, LOG)], [(HOUSE, ALL, [("look", (7,))])]),
    "way_at": ([(HOUSE, ALL, LOG, 0)], [(HOUSE, ALL, LOG, 10 ** 6)]),
    "judged": ([(HOUSE, ALL, LOG, 1)], [(HOUSE, (0,), [("go", 7)], 1)]),
    "passed": ([(HOUSE, ALL, LOG, 1)], [(HOUSE, (0,), [("go", 7)], 1)]),
    "houses_left": ([(POOL, (0, 1), LOG)], [(POOL * 5, (0, 1), LOG)]),
    "possible_gaps": ([((1,), 3, 3, (0, 1), LOG)], [((1,), 6, 3, (0, 1), LOG)]),
    "fits": ([(HOUSE, (1, 3, 0), [(1, 0), (3, 0)])], [(HOUSE, (1, 3, 0), [(1, 0), (3, 3)])]),
    "rider_ways": ([(HOUSE, ALL, LOG + [("gap",), ("door",)], [(1, 2)])], [(HOUSE, (4,), LOG, [(1, 2)])]),
    "served": ([(HOUSE, "near", 1, (3, 0, 2))], [(HOUSE, "near", 1, (3, 3))]),
    "waiting": ([(HOUSE, "sweep", 1, (3, 0, 2))], [(HOUSE, "up", 1, (3, 3))]),
    "best_rules": ([(HOUSE, 1, (3, 0, 2))], [(HOUSE, 4, (3, 3))]),
    "served_timed": ([(HOUSE, "near", 1, [(0, 3), (1, 0), (9, 2)])], [(HOUSE, "near", 1, [(0, 3), (1, 0), (0, 2)])]),
    "least_waiting": ([(HOUSE, 1, (3, 0, 2))], [(HOUSE, 1, (3, 3))]),
    "difference": ([(HOUSE, "first", "near", 0, 2), (HOUSE, "near", "near", 0, 2)], [(HOUSE, "first", "near", 0, 5)]),
    "rules_of": ([(HOUSE, 0, [((1, 0), (0, 1)), ((), ())])], [(HOUSE, 0, [((1, 0), (0, 1)), ((4,), ())])]),
    "sounds": ([(HOUSE, 0, (2, 2, 3))], [(HOUSE, 0, (2, 4))]),
    "floors_at": ([(HOUSE, ALL, LOG, 2)], [(HOUSE, ALL, LOG, 6)]),
    "best_moment": ([(HOUSE, ALL, LOG)], [(HOUSE, (4,), LOG)]),
    "fewest_looks": ([(HOUSE, ALL, LOG)], [(HOUSE, ALL, [("gap",)] * 3)]),
    "floors_by": ([(HOUSE, ALL, LOG, 2)], [(HOUSE, ALL, LOG, 10)]),
    "least_slack": ([(HOUSE, ALL, LOG)], [(HOUSE, (4,), LOG)]),
    "wrong_bells": ([(HOUSE, (0,), [("go", 3), ("bell", False)], 2)], [(HOUSE, ALL, LOG, 4)]),
    "bell_judged": ([(HOUSE, (0,), [("go", 3), ("bell", False)], 1)], [(HOUSE, (0,), [("go", 7)], 1)]),
    "two_floors": ([(HOUSE, (0, 1), (2,), LOG)], [(HOUSE, (0, 1), (4,), LOG)]),
    "two_ways": ([(HOUSE, (0, 1), (2,), LOG)], [(HOUSE, (0, 1), (4,), LOG)]),
    "whose_row": ([(HOUSE, (0, 1), (2,), LOG, 3)], [(HOUSE, (0, 1), (2,), LOG, 5)]),
    "floor_after": ([(HOUSE, "near", 1, (3, 0), 10 ** 18)], [(HOUSE, "near", 1, (3, 0), -1)]),
    "seconds_after": ([(HOUSE, "near", 1, (3, 0), 10 ** 18)], [(HOUSE, "near", 1, (3, 0), -1)]),
    "first_night": ([(HOUSE, "near", 1, (3, 0), 3)], [(HOUSE, "near", 1, (3, 0), 4)]),
    "guesses": ([(HOUSE, NIGHTS), (HOUSE, [])], [(HOUSE, NIGHTS + [((4,), [])])]),
    "next_night": ([(HOUSE, NIGHTS, [(1,), (2, 1)]), (HOUSE, [], [(1,), (2, 1)])], [(HOUSE, NIGHTS, [(1,), (4,)])]),
    "format_log": ([(HOUSE, LOG)], [(HOUSE, LOG + [("go", 0)])]),
    "parse_log": ([(TEXT,)], [(TEXT + " x",)]),
    "shaft": ([(HOUSE, (0, 2))], [(HOUSE, (0, 4))]),
    "ways_table": ([(HOUSE, ALL, LOG)], [(HOUSE, (4,), LOG)]),
    "encode_log": ([(HOUSE, LOG)], [(HOUSE, LOG + [("go", 0)])]),
    "decode_log": ([(VALUES,)], [(VALUES[:-1] + [86],), (VALUES[:9],)]),
}
FUNCTIONS = {name: getattr(importlib.import_module(f"liftheard.{module}"), name)
             for module, names in INTERFACE.items() for name in names if name in CALLS}


def answer(function, arguments):
    found = function(*arguments)
    return list(found) if isinstance(found, types.GeneratorType) else found


def spoiled(value):
    """Change all lists that were returned, as a caller may."""
    if isinstance(value, tuple):
        for item in value:
            spoiled(item)
    if isinstance(value, list):
        for item in value:
            spoiled(item)
        value.append("spoiled")
        value.reverse()


class TestFunctions(unittest.TestCase):

    def test_all_functions_are_here(self):
        names = {name for names in INTERFACE.values() for name in names}
        self.assertEqual(names - set(CALLS), {"House", "Listener", "Trial", "Control", "Daybook"})
        self.assertEqual(set(CALLS), set(FUNCTIONS))

    def test_asking_twice(self):
        for name, (right, _) in CALLS.items():
            for arguments in right:
                with self.subTest(function=name):
                    before = copy.deepcopy(arguments)
                    first = answer(FUNCTIONS[name], arguments)
                    self.assertEqual(arguments, before)
                    expected = copy.deepcopy(first)
                    spoiled(first)
                    self.assertEqual(arguments, before)
                    self.assertEqual(answer(FUNCTIONS[name], arguments), expected)
                    self.assertEqual(answer(FUNCTIONS[name], copy.deepcopy(arguments)), expected)

    def test_errors_change_nothing(self):
        for name, (right, wrong) in CALLS.items():
            expected = answer(FUNCTIONS[name], right[0])
            for arguments in wrong:
                with self.subTest(function=name):
                    before = copy.deepcopy(arguments)
                    told = []
                    for _ in range(2):
                        with self.assertRaises(LiftError) as caught:
                            answer(FUNCTIONS[name], arguments)
                        told.append((caught.exception.__class__, vars(caught.exception)))
                    self.assertEqual(told[0], told[1])
                    self.assertEqual(arguments, before)
                    self.assertEqual(answer(FUNCTIONS[name], right[0]), expected)

    def test_lists_of_other_calls_are_not_mixed(self):
        everything = {name: copy.deepcopy([answer(FUNCTIONS[name], arguments) for arguments in right])
                      for name, (right, _) in CALLS.items()}
        for name, (right, _) in CALLS.items():
            for arguments, expected in zip(right, everything[name]):
                self.assertEqual(answer(FUNCTIONS[name], arguments), expected, name)

    def test_no_booleans_among_numbers(self):
        for name in ("way_count", "waiting", "fewest_looks", "two_ways", "floor_after", "seconds_after", "first_night"):
            self.assertIs(type(answer(FUNCTIONS[name], CALLS[name][0][0])), int, name)


class TestObjects(unittest.TestCase):

    def test_houses(self):
        gaps, bells = (3, 2, 4), (1, 3)
        house = House(gaps, bells)
        self.assertEqual((house.gaps, house.bells, house.floors, len(house)), (gaps, bells, ALL, 4))
        self.assertEqual(house.turned().turned(), house)
        self.assertEqual(house, HOUSE)

    def test_listeners(self):
        operations = [("hear", row) for row in LOG] + [("mark", "a"), ("told", 0, (1, 2)), ("go", "a"), ("undo",)]
        one, other = (Listener.replay(HOUSE, ALL, operations) for _ in range(2))
        for read in (lambda listener: listener.log, lambda listener: listener.marks,
                     lambda listener: listener.history, lambda listener: listener.floors_then(1),
                     lambda listener: listener.tried([("hear", ("door",))], False)):
            expected = read(one)
            spoiled(read(one))
            self.assertEqual((read(one), read(other)), (expected, expected))
        self.assertEqual((one.floors, one.way_number()), (other.floors, other.way_number()))
        with Trial(one):
            one.hear(("gap",))
        self.assertEqual((one.log, one.history), (other.log, other.history))

    def test_controls(self):
        one, other = (Control(HOUSE, "sweep", 1) for _ in range(2))
        for control in (one, other):
            self.assertEqual([control.call(floor) for floor in (3, 0, 2)], [1, 2, 3])
            found = control.serve_all()
            self.assertEqual(found, [(2, 2), (3, 4), (0, 9)])
            spoiled(found)
            spoiled(control.heard())
        self.assertEqual(one.heard(), other.heard())
        self.assertEqual((one.here, one.clock, one.open_calls, one.is_up), (0, 15, (), False))

    def test_daybooks(self):
        text = TEXT.replace("bells 1 3", "bells 1 3\nstart 0 1 2 3") + "\nfloors\nundo\nways"
        one, other = Daybook(text), Daybook(text)
        self.assertEqual((one.results, one.results), (other.results, other.results))
        spoiled(one.listener().log)
        self.assertEqual(one.listener().log, LOG[:-1])
        self.assertEqual(one.listener().history, other.listener().history)


if __name__ == "__main__":
    unittest.main()

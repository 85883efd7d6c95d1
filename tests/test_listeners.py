"""Points 23 and 24: a listener, its operations, marks and history, undo and redo, and trials."""

import itertools
import random
import unittest

from liftheard.errors import (
    InvalidLog, InvalidName, InvalidNumber, InvalidOperation, LiftError, NoWay, UnknownFloor, UnknownMark,
)
from liftheard.houses import House
from liftheard.listeners import Listener, Trial
from liftheard.ways import ways

SMALL = House((3, 4), (1,))
HOUSE = House((3, 2, 4), (1, 3))
EVEN = House((2, 2, 2), (0, 2))
ROWS = (("go", 2), ("go", 3), ("go", 4), ("bell", True), ("bell", False), ("door",), ("look", (0, 1)), ("gap",))


def seen(listener):
    """All that a listener tells."""
    then = [listener.floors_then(moment) for moment in range(len(listener.log) + 1)]
    return listener.log, listener.floors, listener.marks, listener.history, then, listener.way_number()


class Model:
    """A listener as the points say it: what was heard and told is gone through once more for each answer."""

    def __init__(self, house, start):
        self.house, self.start, self.operations, self.undone = house, start, [], []

    def state(self, operations):
        log, told, marks = [], [], {}
        for name, *arguments in operations:
            if name == "hear":
                log = log + arguments
            elif name == "told":
                told = told + [arguments]
            elif name == "mark":
                marks[arguments[0]] = log, told
            else:
                log, told = marks[arguments[0]]
        found = [way for way in ways(self.house, self.start, log)
                 if all(way[moment] in floors for moment, floors in told)]
        return log, marks, found

    def run(self, operation):
        name = operation[0]
        if name == "undo":
            if self.operations:
                self.undone.append(self.operations.pop())
                return True
            return False
        if name == "redo":
            if self.undone:
                self.operations.append(self.undone.pop())
                return True
            return False
        marks = self.state(self.operations)[1]
        if name == "go" and operation[1] not in marks:
            return UnknownMark
        if name == "told" and not 0 <= operation[1] <= len(self.state(self.operations)[0]):
            return InvalidNumber
        log, _, found = self.state(self.operations + [operation])
        if not found:
            return NoWay
        self.operations.append(operation)
        self.undone = []
        return {"hear": len({way[-1] for way in found}), "told": len(found), "go": len(log),
                "mark": name == "mark" and operation[1] in marks}[name]

    def seen(self):
        log, marks, found = self.state(self.operations)
        then = [sorted({way[moment] for way in found}) for moment in range(len(log) + 1)]
        return log, tuple(then[-1]), sorted(marks), self.operations, then, len(found)


class ListenerCase(unittest.TestCase):

    def assert_nothing_changes(self, kind, listener, ask, **attributes):
        """Whether this raises an error of a kind, and leaves the listener as it was, for undo and redo, too."""
        before = seen(listener)
        with self.assertRaises(kind) as caught:
            ask()
        self.assertIs(caught.exception.__class__, kind)
        self.assertEqual({name: getattr(caught.exception, name) for name in attributes}, attributes)
        self.assertEqual(seen(listener), before)

    def heard(self, house, start, *rows):
        listener = Listener(house, start)
        for row in rows:
            listener.hear(row)
        return listener


class TestExamples(ListenerCase):

    def test_values(self):
        listener = Listener(SMALL, (0, 1, 2))
        told = [listener.hear(("go", 4)), listener.mark("a"), listener.told(0, (0, 2)), listener.floors]
        told += [listener.go("a"), listener.floors, listener.undo(), listener.floors_then(0)]
        self.assertEqual(told, [2, False, 1, (1,), 1, (1, 2), True, [2]])

    def test_error(self):
        with self.assertRaises(InvalidOperation) as caught:
            Listener(SMALL, (0,)).apply_all([("hear", ("door",)), ("told", 0)])
        self.assertEqual(caught.exception.index, 1)


class TestBeginning(ListenerCase):

    def test_nothing_heard(self):
        for start in ((0,), (1, 3), (0, 1, 2, 3)):
            listener = Listener(HOUSE, start)
            self.assertEqual(seen(listener), ([], start, [], [], [list(start)], len(start)))
            self.assertIs(type(listener.floors), tuple)

    def test_unknown_floors(self):
        for start in ((4,), (-1, 0), (0, 1, 7)):
            with self.assertRaises(UnknownFloor):
                Listener(HOUSE, start)

    def test_no_floors(self):
        with self.assertRaises(NoWay):
            Listener(HOUSE, ())


class TestHear(ListenerCase):

    def test_each_kind_of_row(self):
        listener = Listener(HOUSE, (0, 1))
        for row, number, floors in (
            (("go", 2), 1, (2,)), (("bell", False), 1, (2,)), (("door",), 1, (2,)), (("gap",), 4, (0, 1, 2, 3)),
            (("look", (0, 1, 3)), 3, (0, 1, 3)), (("bell", True), 2, (1, 3)), (("go", 6), 2, (1, 3)),
        ):
            self.assertEqual(listener.hear(row), number)
            self.assertEqual(listener.floors, floors)
        self.assertEqual(len(listener.log), 7)
        self.assertEqual(listener.history, [("hear", row) for row in listener.log])

    def test_rows_are_kept_in_order(self):
        listener = self.heard(HOUSE, (0, 1, 2, 3), ("gap",), ("door",), ("look", (2, 3)))
        self.assertEqual(listener.log, [("gap",), ("door",), ("look", (2, 3))])

    def test_invalid_rows(self):
        listener = self.heard(HOUSE, (0, 1), ("gap",), ("door",))
        for row in (("go", 0), ("go", 82), ("go", -3), ("look", (4,)), ("look", (0, -1))):
            self.assert_nothing_changes(InvalidLog, listener, lambda: listener.hear(row), index=0)

    def test_no_floor_left(self):
        listener = self.heard(HOUSE, (0, 1), ("door",))
        for row in (("go", 4), ("go", 81), ("look", (2, 3)), ("look", ())):
            self.assert_nothing_changes(NoWay, listener, lambda: listener.hear(row))
        listener.hear(("bell", True))
        self.assert_nothing_changes(NoWay, listener, lambda: listener.hear(("bell", False)))
        self.assertEqual(listener.hear(("go", 2)), 1)

    def test_what_was_told_counts(self):
        listener = self.heard(HOUSE, (0, 1, 2, 3), ("go", 2))
        self.assertEqual(listener.told(0, (1, 3)), 1)
        self.assertEqual(listener.hear(("door",)), 1)
        self.assert_nothing_changes(NoWay, listener, lambda: listener.hear(("bell", True)))


class TestTold(ListenerCase):

    def test_moment_0(self):
        listener = self.heard(SMALL, (0, 1, 2), ("gap",))
        self.assertEqual(listener.told(0, (0, 2)), 6)
        self.assertEqual(listener.told(0, (1, 2)), 3)
        self.assertEqual(listener.floors_then(0), [2])

    def test_a_moment_in_the_middle(self):
        listener = self.heard(SMALL, (0, 1, 2), ("go", 4), ("go", 4), ("door",))
        self.assertEqual((listener.way_number(), listener.floors_then(1)), (2, [1, 2]))
        self.assertEqual(listener.told(1, (0, 1)), 1)
        self.assertEqual([listener.floors_then(moment) for moment in range(4)], [[2], [1], [2], [2]])

    def test_now(self):
        listener = self.heard(SMALL, (0, 1, 2), ("gap",), ("gap",))
        self.assertEqual(listener.told(2, (1,)), 9)
        self.assertEqual((listener.floors, listener.floors_then(1)), ((1,), [0, 1, 2]))

    def test_before_anything_is_heard(self):
        listener = Listener(HOUSE, (0, 1, 3))
        self.assertEqual(listener.told(0, (1, 2, 3)), 2)
        self.assertEqual((listener.floors, listener.hear(("go", 4))), ((1, 3), 1))
        self.assertEqual(listener.floors_then(0), [3])

    def test_moments_that_were_not_yet(self):
        listener = self.heard(SMALL, (0, 1), ("gap",), ("door",))
        for moment in (-1, -3, 3, 100):
            for floors in ((0,), (9,), ()):
                self.assert_nothing_changes(InvalidNumber, listener, lambda: listener.told(moment, floors))

    def test_unknown_floors(self):
        listener = self.heard(SMALL, (0, 1), ("gap",), ("door",))
        for moment, floors in itertools.product(range(3), ((3,), (-1, 0), (0, 1, 2, 3))):
            self.assert_nothing_changes(UnknownFloor, listener, lambda: listener.told(moment, floors))

    def test_no_way(self):
        listener = self.heard(SMALL, (0, 1), ("go", 4), ("gap",))
        for moment, floors in ((0, ()), (1, ()), (2, ()), (0, (0,)), (1, (0, 1))):
            self.assert_nothing_changes(NoWay, listener, lambda: listener.told(moment, floors))

    def test_it_changes_what_is_known_of_other_moments(self):
        listener = self.heard(SMALL, (0, 1, 2), ("go", 4), ("door",), ("go", 3))
        self.assertEqual([listener.floors_then(moment) for moment in range(4)], [[2], [1], [1], [0]])
        listener = self.heard(HOUSE, (0, 1, 2, 3), ("go", 2), ("gap",), ("go", 4))
        self.assertEqual([listener.floors_then(0), listener.floors], [[1, 2], (2, 3)])
        self.assertEqual(listener.told(2, (2,)), 2)
        self.assertEqual([listener.floors_then(0), listener.floors], [[1, 2], (3,)])
        self.assertEqual(listener.told(1, (1, 3)), 1)
        self.assertEqual([listener.floors_then(0), listener.floors], [[2], (3,)])

    def test_later_rows_change_what_is_known_of_earlier_moments(self):
        listener = self.heard(SMALL, (0, 1, 2), ("gap",))
        self.assertEqual(listener.floors_then(1), [0, 1, 2])
        listener.hear(("bell", True))
        self.assertEqual([listener.floors_then(1), listener.floors_then(0)], [[1], [0, 1, 2]])

    def test_history(self):
        listener = self.heard(SMALL, (0, 1, 2), ("gap",))
        listener.told(1, (0, 1, 2))
        listener.told(0, (0,))
        self.assertEqual(listener.history, [("hear", ("gap",)), ("told", 1, (0, 1, 2)), ("told", 0, (0,))])
        self.assertEqual(listener.log, [("gap",)])


class TestMarks(ListenerCase):

    def test_mark_tells_whether_the_name_was_there(self):
        listener = Listener(SMALL, (0, 1, 2))
        self.assertIs(listener.mark("b"), False)
        self.assertIs(listener.mark("a"), False)
        self.assertIs(listener.mark("b"), True)
        self.assertEqual(listener.marks, ["a", "b"])
        self.assertEqual(listener.history, [("mark", "b"), ("mark", "a"), ("mark", "b")])

    def test_names(self):
        listener = Listener(SMALL, (0, 1, 2))
        for name in ("a", "z", "abcdefgh", "zzzzzzzz"):
            self.assertIs(listener.mark(name), False)
        for name in ("", "abcdefghi", "A", "aB", "a1", "0", "a b", " ", "a_", "\u00e9", "a\u00e9", "\u0430", "a\n"):
            self.assert_nothing_changes(InvalidName, listener, lambda: listener.mark(name))

    def test_go(self):
        listener = self.heard(SMALL, (0, 1, 2), ("gap",))
        listener.mark("a")
        listener.hear(("bell", True))
        listener.told(0, (0,))
        self.assertEqual((listener.floors, listener.way_number()), ((1,), 1))
        self.assertEqual(listener.go("a"), 1)
        self.assertEqual((listener.log, listener.floors, listener.way_number()), ([("gap",)], (0, 1, 2), 9))
        self.assertEqual(listener.floors_then(0), [0, 1, 2])
        self.assert_nothing_changes(InvalidNumber, listener, lambda: listener.floors_then(2))

    def test_what_was_told_ahead_of_the_mark_is_in_it(self):
        listener = self.heard(SMALL, (0, 1, 2), ("gap",))
        listener.told(0, (1, 2))
        listener.mark("a")
        listener.told(0, (2,))
        listener.go("a")
        self.assertEqual(listener.floors_then(0), [1, 2])

    def test_go_returns_to_the_last_marking(self):
        listener = Listener(SMALL, (0, 1, 2))
        listener.mark("a")
        listener.hear(("go", 4))
        listener.mark("a")
        listener.hear(("door",))
        self.assertEqual(listener.go("a"), 1)
        self.assertEqual(listener.log, [("go", 4)])
        # Undone are this return, the row, and the second marking: the first one is the last then.
        self.assertEqual([listener.undo() for _ in range(3)], [True] * 3)
        self.assertEqual((listener.marks, listener.log), (["a"], [("go", 4)]))
        self.assertEqual(listener.go("a"), 0)

    def test_on_from_an_earlier_mark(self):
        listener = Listener(HOUSE, (0,))
        listener.mark("a")
        listener.hear(("go", 3))
        listener.mark("b")
        listener.hear(("go", 2))
        listener.mark("c")
        self.assertEqual(listener.go("a"), 0)
        self.assertEqual(listener.hear(("go", 9)), 1)
        self.assertEqual((listener.log, listener.floors), ([("go", 9)], (3,)))
        # Marks name what was heard and told: they are known, also behind a return to an earlier one.
        self.assertEqual(listener.marks, ["a", "b", "c"])
        self.assertEqual(listener.go("c"), 2)
        self.assertEqual((listener.log, listener.floors), ([("go", 3), ("go", 2)], (2,)))
        self.assertEqual(listener.go("b"), 1)
        self.assertIs(listener.mark("a"), True)
        self.assertEqual(listener.go("a"), 1)

    def test_history_has_each_return(self):
        listener = Listener(SMALL, (0, 1, 2))
        listener.mark("a")
        listener.hear(("gap",))
        listener.go("a")
        listener.go("a")
        self.assertEqual(listener.history, [("mark", "a"), ("hear", ("gap",)), ("go", "a"), ("go", "a")])

    def test_unknown_marks(self):
        listener = self.heard(SMALL, (0, 1, 2), ("gap",))
        listener.mark("a")
        for name in ("b", "aa", "", "A", "abcdefghi"):
            self.assert_nothing_changes(UnknownMark, listener, lambda: listener.go(name))
        listener.undo()
        self.assertEqual(listener.marks, [])
        self.assert_nothing_changes(UnknownMark, listener, lambda: listener.go("a"))
        self.assertIs(listener.mark("a"), False)
        self.assertEqual(listener.go("a"), 1)

    def test_a_marking_that_was_redone(self):
        listener = Listener(SMALL, (0, 1, 2))
        listener.mark("a")
        listener.undo()
        listener.redo()
        self.assertEqual((listener.marks, listener.go("a")), (["a"], 0))


class TestReadings(ListenerCase):

    def test_lists_are_new_for_each_reading(self):
        listener = self.heard(SMALL, (0, 1, 2), ("gap",))
        listener.mark("a")
        before = seen(listener)
        for read in (lambda: listener.log, lambda: listener.marks, lambda: listener.history,
                     lambda: listener.floors_then(0)):
            found = read()
            self.assertEqual(read(), found)
            found.append("x")
            self.assertEqual(seen(listener), before)
            read().clear()
            self.assertEqual(seen(listener), before)

    def test_floors_then(self):
        listener = self.heard(HOUSE, (0, 1, 2, 3), ("go", 2), ("bell", True))
        self.assertEqual([listener.floors_then(moment) for moment in range(3)], [[2], [1], [1]])
        for moment in (-1, 3, 4):
            self.assert_nothing_changes(InvalidNumber, listener, lambda: listener.floors_then(moment))

    def test_way_number(self):
        listener = Listener(SMALL, (0, 2))
        self.assertEqual(listener.way_number(), 2)
        for power in range(1, 60):
            self.assertEqual(listener.hear(("gap",)), 3)
            self.assertEqual(listener.way_number(), 2 * 3 ** power)

    def test_properties_are_not_assigned(self):
        listener = Listener(SMALL, (0, 2))
        for name in ("log", "floors", "marks", "history"):
            with self.assertRaises(AttributeError):
                setattr(listener, name, [])

    def test_two_listeners_know_nothing_of_each_other(self):
        one, other = Listener(SMALL, (0, 1)), Listener(SMALL, (0, 1))
        one.hear(("go", 4))
        one.mark("a")
        self.assertEqual(seen(other), seen(Listener(SMALL, (0, 1))))


class TestUndo(ListenerCase):

    def test_each_kind_of_operation(self):
        for operation in (("hear", ("go", 4)), ("told", 1, (0, 2)), ("mark", "b"), ("mark", "a"), ("go", "a")):
            listener = self.heard(SMALL, (0, 1, 2), ("gap",))
            listener.mark("a")
            listener.hear(("door",))
            before = seen(listener)
            getattr(listener, operation[0])(*operation[1:])
            behind = seen(listener)
            self.assertNotEqual(behind, before)
            self.assertEqual(listener.history[-1], operation)
            for _ in range(2):
                self.assertIs(listener.undo(), True)
                self.assertEqual(seen(listener), before)
                self.assertIs(listener.redo(), True)
                self.assertEqual(seen(listener), behind)
            self.assertIs(listener.redo(), False)

    def test_several_in_a_row(self):
        listener = Listener(SMALL, (0, 1, 2))
        states = [seen(listener)]
        for ask in (lambda: listener.hear(("gap",)), lambda: listener.mark("a"), lambda: listener.told(0, (0, 1)),
                    lambda: listener.hear(("go", 4)), lambda: listener.go("a"), lambda: listener.mark("a")):
            ask()
            states.append(seen(listener))
        for state in states[-2::-1]:
            self.assertIs(listener.undo(), True)
            self.assertEqual(seen(listener), state)
        for state in states[1:]:
            self.assertIs(listener.redo(), True)
            self.assertEqual(seen(listener), state)

    def test_none_left(self):
        listener = Listener(SMALL, (0, 1))
        self.assertIs(listener.undo(), False)
        self.assertIs(listener.redo(), False)
        listener.hear(("gap",))
        self.assertIs(listener.redo(), False)
        self.assertIs(listener.undo(), True)
        for _ in range(2):
            self.assertIs(listener.undo(), False)
        self.assertIs(listener.redo(), True)
        for _ in range(2):
            self.assertIs(listener.redo(), False)
        self.assertEqual(listener.history, [("hear", ("gap",))])

    def test_redo_behind_a_new_operation(self):
        for ask in ("hear", ("gap",)), ("told", 0, (0, 1)), ("mark", "a"), ("go", "m"):
            listener = Listener(SMALL, (0, 1))
            listener.mark("m")
            listener.hear(("door",))
            listener.hear(("door",))
            listener.undo()
            listener.undo()
            getattr(listener, ask[0])(*ask[1:])
            self.assertIs(listener.redo(), False)
            self.assertEqual(listener.history, [("mark", "m"), ask])

    def test_redo_behind_an_error(self):
        listener = Listener(SMALL, (0, 1))
        listener.hear(("gap",))
        listener.undo()
        for kind, ask in (
            (InvalidLog, lambda: listener.hear(("go", 0))), (NoWay, lambda: listener.hear(("go", 80))),
            (InvalidNumber, lambda: listener.told(1, (0,))), (UnknownFloor, lambda: listener.told(0, (3,))),
            (NoWay, lambda: listener.told(0, (2,))), (InvalidName, lambda: listener.mark("")),
            (UnknownMark, lambda: listener.go("a")), (InvalidNumber, lambda: listener.floors_then(1)),
            (InvalidOperation, lambda: listener.apply_all([()])),
            (NoWay, lambda: listener.tried([("told", 0, ())], True)),
        ):
            self.assert_nothing_changes(kind, listener, ask)
        self.assertIs(listener.redo(), True)
        self.assertEqual(listener.log, [("gap",)])

    def test_redo_behind_readings_and_an_undo(self):
        listener = self.heard(SMALL, (0, 1), ("gap",), ("door",), ("bell", True))
        listener.undo()
        seen(listener)
        listener.undo()
        self.assertIs(listener.redo(), True)
        self.assertIs(listener.redo(), True)
        self.assertEqual(listener.log, [("gap",), ("door",), ("bell", True)])

    def test_history_has_the_operations_in_effect_alone(self):
        listener = self.heard(SMALL, (0, 1), ("gap",), ("door",))
        listener.undo()
        listener.mark("a")
        listener.undo()
        listener.mark("b")
        self.assertEqual(listener.history, [("hear", ("gap",)), ("mark", "b")])
        listener.undo()
        self.assertEqual(listener.history, [("hear", ("gap",))])
        listener.redo()
        self.assertEqual(listener.history, [("hear", ("gap",)), ("mark", "b")])

    def test_as_the_model(self):
        words = ["hear"] * 5 + ["told"] * 2 + ["mark", "mark", "go", "undo", "undo", "redo", "redo"]
        for seed in range(60):
            chosen = random.Random(seed)
            house = chosen.choice((SMALL, HOUSE, EVEN))
            start = tuple(floor for floor in house.floors if chosen.random() < 0.7) or (0,)
            listener, model = Listener(house, start), Model(house, start)
            for _ in range(25):
                name = chosen.choice(words)
                arguments = {
                    "hear": [chosen.choice(ROWS)], "mark": [chosen.choice("abc")], "go": [chosen.choice("abc")],
                    "told": [chosen.randrange(-1, 6), tuple(f for f in house.floors if chosen.random() < 0.8)],
                }.get(name, [])
                expected = model.run((name, *arguments))
                if isinstance(expected, int):
                    found = getattr(listener, name)(*arguments)
                    self.assertEqual((found, type(found)), (expected, type(expected)), (seed, name, arguments))
                else:
                    self.assert_nothing_changes(expected, listener, lambda: getattr(listener, name)(*arguments))
                self.assertEqual(seen(listener), model.seen(), seed)


class TestApplyAll(ListenerCase):

    def test_each_kind_of_operation(self):
        listener = Listener(SMALL, (0, 1, 2))
        results = listener.apply_all([
            ("hear", ("go", 4)), ("mark", "a"), ("told", 0, (0, 2)), ("mark", "a"), ("undo",), ("go", "a"), ("redo",),
            ("undo",), ("redo",), ("undo",), ("undo",), ("undo",), ("undo",), ("undo",), ("redo",),
        ])
        self.assertEqual(results, [2, False, 1, True, True, 1, False, True, True, True, True, True, True, False, True])
        self.assertEqual([type(result) for result in results], [int, bool, int, bool, bool, int] + [bool] * 9)
        self.assertEqual(listener.history, [("hear", ("go", 4))])

    def test_no_operations(self):
        listener = self.heard(SMALL, (0, 1, 2), ("gap",))
        listener.undo()
        self.assertEqual(listener.apply_all([]), [])
        self.assertIs(listener.redo(), True)

    def test_as_the_methods_one_by_one(self):
        operations = [("hear", ("gap",)), ("mark", "a"), ("hear", ("bell", True)), ("undo",), ("told", 1, (0, 1))]
        one, other = Listener(SMALL, (0, 1)), Listener(SMALL, (0, 1))
        expected = [getattr(one, name)(*arguments) for name, *arguments in operations]
        self.assertEqual(other.apply_all(operations), expected)
        self.assertEqual(seen(other), seen(one))
        self.assertEqual((other.redo(), other.undo()), (one.redo(), one.undo()))

    def test_undo_takes_back_one_of_them(self):
        listener = Listener(SMALL, (0, 1))
        listener.apply_all([("hear", ("gap",)), ("hear", ("door",))])
        listener.undo()
        self.assertEqual(listener.log, [("gap",)])

    def test_an_error_in_the_middle(self):
        ahead = [("undo",), ("hear", ("gap",)), ("mark", "c"), ("told", 0, (0, 1)), ("go", "c"), ("undo",), ("redo",)]
        for kind, operation, attributes in (
            (InvalidLog, ("hear", ("go", 0)), {"index": 0}), (NoWay, ("hear", ("look", ())), {}),
            (InvalidNumber, ("told", 9, (0,)), {}), (UnknownFloor, ("told", 0, (3,)), {}), (NoWay, ("told", 0, ()), {}),
            (InvalidName, ("mark", "A"), {}), (UnknownMark, ("go", "x"), {}),
        ):
            listener = self.heard(SMALL, (0, 1, 2), ("gap",), ("door",), ("bell", True))
            listener.mark("a")
            listener.undo()
            operations = [*ahead, operation, ("hear", ("gap",))]
            self.assert_nothing_changes(kind, listener, lambda: listener.apply_all(operations), **attributes)
            self.assertIs(listener.redo(), True)
            self.assertEqual(listener.marks, ["a"])
            self.assertIs(listener.redo(), False)
            self.assertEqual([listener.undo() for _ in range(5)], [True] * 4 + [False])

    def test_unknown_mark_of_a_marking_that_was_undone(self):
        listener = Listener(SMALL, (0, 1, 2))
        operations = [("mark", "a"), ("undo",), ("go", "a")]
        self.assert_nothing_changes(UnknownMark, listener, lambda: listener.apply_all(operations))
        self.assertIs(listener.redo(), False)

    def test_invalid_operations(self):
        wrong = (
            ["undo"], "undo", 5, None, (), ("unmark",), ("log",), ("floors",), ("marks",), ("history",), ("",), (5,),
            ("Undo",), ("way_number",), ("floors_then", 0), ("apply_all", []), ("tried", [], True), ("_add", 1, 2),
            ("__init__", SMALL, (0,)), ("replay", SMALL, (0,), []), (None, 1), (("undo",),), (["undo"],),
            ("hear",), ("hear", ("gap",), 1), ("told",), ("told", 0), ("told", 0, (0,), 1), ("mark",),
            ("mark", "a", "b"), ("go",), ("go", "a", "b"), ("undo", 1), ("redo", 1), ("undo", ()), ("redo", None),
        )
        listener = self.heard(SMALL, (0, 1, 2), ("gap",))
        for operation, count in itertools.product(wrong, range(3)):
            operations = [("hear", ("gap",))] * count + [operation, ("redo",), ("x",)]
            self.assert_nothing_changes(InvalidOperation, listener, lambda: listener.apply_all(operations), index=count)

    def test_invalid_operations_ahead_of_all_else(self):
        listener = self.heard(SMALL, (0, 1, 2), ("gap",))
        operations = [("hear", ("go", 0)), ("told", 9, (9,)), ("mark", ""), ("go", "x"), ("hear",)]
        self.assert_nothing_changes(InvalidOperation, listener, lambda: listener.apply_all(operations), index=4)

    def test_its_own_history_once_more(self):
        listener = self.heard(SMALL, (0, 1, 2), ("gap",))
        listener.mark("a")
        self.assertEqual(listener.apply_all(listener.history), [3, True])
        self.assertEqual(listener.history, [("hear", ("gap",)), ("mark", "a")] * 2)


class TestReplay(ListenerCase):

    def test_value(self):
        listener = Listener.replay(SMALL, (0, 1, 2), [("hear", ("go", 4)), ("mark", "a"), ("undo",)])
        self.assertIsInstance(listener, Listener)
        self.assertEqual(listener.history, [("hear", ("go", 4))])
        self.assertIs(listener.redo(), True)
        self.assertEqual(seen(Listener.replay(SMALL, (1,), [])), seen(Listener(SMALL, (1,))))

    def test_a_history(self):
        one = self.heard(SMALL, (0, 1, 2), ("gap",))
        one.mark("a")
        one.told(0, (1,))
        one.go("a")
        one.hear(("bell", False))
        self.assertEqual(seen(Listener.replay(SMALL, (0, 1, 2), one.history)), seen(one))

    def test_errors_of_the_listener(self):
        for operations in ([], [()], [("hear", ("go", 0))]):
            with self.assertRaises(UnknownFloor):
                Listener.replay(SMALL, (0, 3), operations)
            with self.assertRaises(NoWay):
                Listener.replay(SMALL, (), operations)

    def test_errors_of_the_operations(self):
        for kind, operations in (
            (InvalidOperation, [("hear", ("go", 0)), ("hear",)]), (InvalidLog, [("hear", ("go", 0))]),
            (NoWay, [("hear", ("go", 80))]), (UnknownMark, [("go", "a")]), (InvalidName, [("mark", "1")]),
            (InvalidNumber, [("told", 1, (0,))]), (UnknownFloor, [("told", 0, (5,))]),
        ):
            with self.assertRaises(kind):
                Listener.replay(SMALL, (0, 1), operations)
        with self.assertRaises(InvalidOperation) as caught:
            Listener.replay(SMALL, (0, 1), [("undo",), ("undo", 2)])
        self.assertEqual(caught.exception.index, 1)


class TrialCase(ListenerCase):

    def begun(self):
        """A listener with something to undo, and something to redo."""
        listener = self.heard(SMALL, (0, 1, 2), ("gap",), ("door",))
        listener.undo()
        return listener

    def assert_as_begun(self, listener):
        self.assertEqual(seen(listener), seen(self.begun()))
        self.assertEqual([listener.redo(), listener.redo()], [True, False])
        self.assertEqual(listener.log, [("gap",), ("door",)])
        self.assertEqual([listener.undo() for _ in range(3)], [True, True, False])


class TestTrial(TrialCase):

    def test_without_hold(self):
        for operations in ([("hear", ("bell", True))], [("undo",)], [("redo",)], [("mark", "a"), ("go", "a")], []):
            listener = self.begun()
            with Trial(listener):
                for name, *arguments in operations:
                    getattr(listener, name)(*arguments)
            self.assert_as_begun(listener)

    def test_what_is_seen_in_the_block(self):
        listener = self.begun()
        with Trial(listener) as trial:
            self.assertIsInstance(trial, Trial)
            self.assertEqual(listener.hear(("bell", True)), 1)
            self.assertEqual(listener.log, [("gap",), ("bell", True)])
        self.assert_as_begun(listener)

    def test_with_hold(self):
        listener = self.begun()
        with Trial(listener) as trial:
            listener.hear(("bell", True))
            trial.hold()
            listener.mark("a")
        self.assertEqual(listener.history, [("hear", ("gap",)), ("hear", ("bell", True)), ("mark", "a")])
        self.assertEqual([listener.redo(), listener.undo(), listener.redo()], [False, True, True])

    def test_an_error_in_the_block(self):
        for kind, row in ((NoWay, ("go", 80)), (InvalidLog, ("go", 0))):
            listener = self.begun()
            with self.assertRaises(kind):
                with Trial(listener):
                    listener.mark("a")
                    listener.hear(row)
            self.assert_as_begun(listener)
        listener = self.begun()
        with self.assertRaises(KeyError):
            with Trial(listener):
                listener.undo()
                raise KeyError
        self.assert_as_begun(listener)

    def test_an_error_behind_hold(self):
        listener = self.begun()
        with self.assertRaises(NoWay):
            with Trial(listener) as trial:
                listener.mark("a")
                trial.hold()
                listener.hear(("go", 80))
        self.assertEqual(listener.marks, ["a"])

    def test_one_in_another(self):
        for is_held, is_outer_held in itertools.product((False, True), repeat=2):
            listener = self.begun()
            with Trial(listener) as outer:
                listener.mark("a")
                with Trial(listener) as inner:
                    listener.mark("b")
                    if is_held:
                        inner.hold()
                self.assertEqual(listener.marks, ["a", "b"] if is_held else ["a"])
                if is_outer_held:
                    outer.hold()
            if is_outer_held:
                self.assertEqual(listener.marks, ["a", "b"] if is_held else ["a"])
            else:
                self.assert_as_begun(listener)

    def test_the_beginning_is_that_of_the_block(self):
        listener = self.begun()
        trial = Trial(listener)
        listener.mark("a")
        with trial:
            listener.mark("b")
        self.assertEqual(listener.marks, ["a"])

    def test_hold_of_one_block_is_not_of_the_next(self):
        listener = self.begun()
        trial = Trial(listener)
        trial.hold()
        with trial:
            listener.mark("a")
        self.assertEqual(listener.marks, [])
        with trial:
            listener.mark("a")
            trial.hold()
        with trial:
            listener.mark("b")
        self.assertEqual(listener.marks, ["a"])

    def test_a_trial_entered_once_more(self):
        listener = self.begun()
        trial = Trial(listener)
        with self.assertRaises(NoWay):
            with trial:
                listener.mark("a")
                listener.hear(("go", 80))
        self.assert_as_begun(listener)
        listener = self.begun()
        trial = Trial(listener)
        for name in ("a", "b"):
            with trial:
                listener.mark(name)
                trial.hold()
                trial.hold()
            with trial:
                self.assertIs(listener.undo(), True)
        self.assertEqual(listener.history, [("hear", ("gap",)), ("mark", "a"), ("mark", "b")])
        with self.assertRaises(KeyError):
            with trial:
                listener.mark("c")
                raise KeyError
        self.assertEqual(listener.marks, ["a", "b"])

    def test_an_error_in_one_in_another(self):
        for is_held, is_outer_held in itertools.product((False, True), repeat=2):
            listener = self.begun()
            with Trial(listener) as outer:
                listener.mark("a")
                with self.assertRaises(UnknownMark):
                    with Trial(listener) as inner:
                        listener.mark("b")
                        if is_held:
                            inner.hold()
                        listener.go("c")
                marks = ["a", "b"] if is_held else ["a"]
                self.assertEqual(listener.marks, marks)
                with self.assertRaises(InvalidName):
                    listener.apply_all([("mark", "d"), ("undo",), ("undo",), ("mark", "D")])
                self.assertEqual(listener.marks, marks)
                if is_outer_held:
                    outer.hold()
            if is_outer_held:
                self.assertEqual(listener.marks, marks)
                self.assertIs(listener.redo(), False)
            else:
                self.assert_as_begun(listener)


class TestTried(TrialCase):

    OPERATIONS = [("undo",), ("mark", "a"), ("hear", ("go", 4)), ("undo",), ("redo",)]

    def test_not_kept(self):
        listener = self.begun()
        self.assertEqual(listener.tried(self.OPERATIONS, False), [True, False, 2, True, True])
        self.assert_as_begun(listener)

    def test_kept(self):
        one, other = self.begun(), self.begun()
        self.assertEqual(one.tried(self.OPERATIONS, True), [True, False, 2, True, True])
        self.assertEqual(one.history, [("mark", "a"), ("hear", ("go", 4))])
        other.apply_all(self.OPERATIONS)
        self.assertEqual(seen(one), seen(other))
        self.assertEqual((one.redo(), one.undo(), one.redo()), (False, True, True))

    def test_nothing(self):
        for keep in (False, True):
            listener = self.begun()
            self.assertEqual(listener.tried([], keep), [])
            self.assert_as_begun(listener)

    def test_errors(self):
        for keep in (False, True):
            for kind, operations, attributes in (
                (InvalidOperation, [("hear", ("go", 0)), ("hear",)], {"index": 1}),
                (InvalidLog, [("mark", "a"), ("hear", ("go", 0))], {"index": 0}),
                (NoWay, [("undo",), ("told", 0, ())], {}), (UnknownMark, [("mark", "a"), ("go", "b")], {}),
                (InvalidName, [("redo",), ("mark", "B")], {}), (UnknownFloor, [("told", 0, (3,))], {}),
                (InvalidNumber, [("undo",), ("told", 1, (0,))], {}),
            ):
                listener = self.begun()
                self.assert_nothing_changes(kind, listener, lambda: listener.tried(operations, keep), **attributes)
                self.assert_as_begun(listener)


class TestArguments(ListenerCase):

    def test_operations_are_unchanged_and_not_kept(self):
        operations = [("hear", ("gap",)), ("mark", "a"), ("undo",), ("told", 0, (0, 1))]
        copy = list(operations)
        listener = Listener(SMALL, (0, 1))
        for run in (listener.apply_all, lambda rows: listener.tried(rows, True),
                    lambda rows: Listener.replay(SMALL, (0, 1), rows)):
            run(operations)
            self.assertEqual(operations, copy)
        before = seen(listener)
        operations.clear()
        self.assertEqual(seen(listener), before)

    def test_results_are_new(self):
        listener = Listener(SMALL, (0, 1))
        results = listener.apply_all([("hear", ("gap",))])
        results.append(5)
        self.assertEqual(listener.tried([("hear", ("gap",))], False), [3])

    def test_the_order_of_errors(self):
        listener = Listener(SMALL, (0, 1))
        for moment, floors, kind in ((1, (3,), InvalidNumber), (0, (3,), UnknownFloor), (0, (2,), NoWay)):
            self.assert_nothing_changes(kind, listener, lambda: listener.told(moment, floors))
        with self.assertRaises(LiftError):
            listener.hear(("look", (7,)))


if __name__ == "__main__":
    unittest.main()

"""Listening to a lift: what is heard and told of it, marks to return to, and operations to undo."""

from liftheard.errors import InvalidName, InvalidNumber, InvalidOperation, UnknownMark
from liftheard.hearing import check_log
from liftheard.houses import check_floors
from liftheard.known import beginning, behind_row, floors_of, way_number_of, with_floors

LETTERS = "abcdefghijklmnopqrstuvwxyz"
LONGEST_NAME = 8
# The names of the operations of a list, and how many items their tuples have.
OPERATIONS = (("hear", 2), ("told", 3), ("mark", 2), ("go", 2), ("undo", 1), ("redo", 1))


def check_name(name):
    """Raise InvalidName for a name that a mark cannot have."""
    if not 1 <= len(name) <= LONGEST_NAME or not all([letter in LETTERS for letter in name]):
        raise InvalidName(f"a mark has a name of 1 to {LONGEST_NAME} letters a to z")


def is_operation(operation):
    """Return whether this is a tuple of the name of an operation and of as many arguments as it takes."""
    return isinstance(operation, tuple) and len(operation) > 0 and (operation[0], len(operation)) in OPERATIONS


def check_operations(operations):
    """Raise InvalidOperation for the first operation of a list that is not one."""
    for index, operation in enumerate(operations):
        if not is_operation(operation):
            raise InvalidOperation(index)


class Listener:
    """Somebody who hears a lift, and who is told where it was."""

    def __init__(self, house, start):
        check_floors(house, start)
        self._house = house
        self._operations = ()
        # What is known at the beginning, and behind each operation that is in effect.
        self._known = (beginning(house, start),)
        self._undone = ()

    @property
    def log(self):
        """The list of the rows that were heard."""
        return list(self._known[-1].rows)

    @property
    def floors(self):
        """The ascending tuple of the floors at which the lift can be now."""
        known = self._known[-1]
        return tuple(floors_of(known, len(known.rows)))

    @property
    def marks(self):
        """The ascending list of the names of all marks."""
        return sorted({operation[1] for operation in self._operations if operation[0] == "mark"})

    @property
    def history(self):
        """The list of all operations in effect, in order."""
        return list(self._operations)

    def _add(self, operation, known):
        self._operations = (*self._operations, operation)
        self._known = (*self._known, known)
        self._undone = ()

    def hear(self, row):
        """Hear a row, and return at how many floors the lift can be behind it."""
        check_log(self._house, [row])
        self._add(("hear", row), behind_row(self._house, self._known[-1], row))
        return len(self.floors)

    def told(self, moment, floors):
        """Be told that the lift was at one of some floors at a moment, and return the number of ways left."""
        self._check_moment(moment)
        check_floors(self._house, floors)
        self._add(("told", moment, floors), with_floors(self._house, self._known[-1], moment, floors))
        return self.way_number()

    def mark(self, name):
        """Mark what was heard and told with a name, and return whether there was a mark with this name."""
        check_name(name)
        was_there = name in self.marks
        self._add(("mark", name), self._known[-1])
        return was_there

    def go(self, name):
        """Return to what was marked with a name last; returns the number of rows then."""
        known = self._marked(name)
        self._add(("go", name), known)
        return len(known.rows)

    def _marked(self, name):
        """Return what was known when something was marked with a name last."""
        for operation, known in zip(self._operations[::-1], self._known[::-1]):
            if operation == ("mark", name):
                return known
        raise UnknownMark(f"there is no mark {name}")

    def _check_moment(self, moment):
        if not 0 <= moment <= len(self._known[-1].rows):
            raise InvalidNumber(f"there was no moment {moment} yet")

    def floors_then(self, moment):
        """Return the ascending list of the floors at which the lift can have been at a moment."""
        self._check_moment(moment)
        return floors_of(self._known[-1], moment)

    def way_number(self):
        """Return the number of ways in which the lift can have gone."""
        return way_number_of(self._known[-1])

    def undo(self):
        """Undo the last operation in effect, and return whether there was one."""
        if not self._operations:
            return False
        self._undone = (*self._undone, (self._operations[-1], self._known[-1]))
        self._operations = self._operations[:-1]
        self._known = self._known[:-1]
        return True

    def redo(self):
        """Execute what was undone last once more, and return whether there was such an operation."""
        if not self._undone:
            return False
        *left, (operation, known) = self._undone
        # The operation meets again what it met at first, so that it leads to the same.
        self._add(operation, known)
        self._undone = tuple(left)
        return True

    def _execute(self, operation):
        """Execute an operation of a list, and return its result."""
        name, *arguments = operation
        if name == "hear":
            return self.hear(*arguments)
        if name == "told":
            return self.told(*arguments)
        if name == "mark":
            return self.mark(*arguments)
        if name == "go":
            return self.go(*arguments)
        return self.undo() if name == "undo" else self.redo()

    def apply_all(self, operations):
        """Execute a list of operations, all or none of them, and return the list of their results."""
        check_operations(operations)
        with Trial(self) as trial:
            results = [self._execute(operation) for operation in operations]
            trial.hold()
        return results

    def tried(self, operations, keep):
        """Execute a list of operations, keep what they change if it is wanted, and return their results."""
        with Trial(self) as trial:
            results = self.apply_all(operations)
            if keep:
                trial.hold()
        return results

    @classmethod
    def replay(cls, house, start, operations):
        """Return a listener behind a list of operations."""
        listener = cls(house, start)
        listener.apply_all(operations)
        return listener


class Trial:
    """A block behind which a listener is as it was at its beginning, unless what was changed is held."""

    def __init__(self, listener):
        self._listener = listener
        self._operations = ()
        self._known = ()
        self._undone = ()
        # None as long as the block is not held: `__exit__` may only ask whether something is None.
        self._held = None

    def __enter__(self):
        listener = self._listener
        self._operations = listener._operations
        self._known = listener._known
        self._undone = listener._undone
        self._held = None
        return self

    def hold(self):
        """Let the listener keep what is changed in the block."""
        self._held = True

    def __exit__(self, kind, value, trace):
        listener = self._listener
        if self._held is None:
            listener._operations = self._operations
            listener._known = self._known
            listener._undone = self._undone

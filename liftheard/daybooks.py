"""Daybooks: texts of a house and of what was heard and told of its lift, with what is known then."""

from liftheard.errors import DaybookError, LiftError
from liftheard.listeners import Listener
from liftheard.words import house_of, log_row_of, numbers_of, rows_of, wrong_place

HEADS = ("gaps", "bells", "start")
START_ROW = 2
ENTRY_WORDS = ("go", "bell", "door", "look", "gap", "told", "undo", "floors", "ways", "then")
# The entries that are no operations of a listener.
QUESTIONS = ("floors", "ways", "then")
MOST_ENTRIES = 100


def check_rows(rows):
    """Raise DaybookError for the first word of some rows that is wrong, superfluous or missing."""
    most = len(HEADS) + MOST_ENTRIES
    place = wrong_place(rows[:most], HEADS, ENTRY_WORDS)
    if place is not None:
        row, word = place
        raise DaybookError(row, word)
    if len(rows) > most:
        raise DaybookError(most, 0)


def operation_of(words):
    """Return the operation of a listener that an entry tells."""
    if words[0] == "told":
        return "told", int(words[1]), numbers_of(words[2:])
    if words[0] == "undo":
        return ("undo",)
    return "hear", log_row_of(words)


def with_commas(floors):
    """Return floors separated by commas."""
    return ",".join([str(floor) for floor in floors])


def result_of(listener, words):
    """Let a listener execute an entry, and return the line of its result."""
    if words[0] == "floors":
        return with_commas(listener.floors)
    if words[0] == "then":
        return with_commas(listener.floors_then(int(words[1])))
    if words[0] == "ways":
        return str(listener.way_number())
    result = listener.apply_all([operation_of(words)])[0]
    if words[0] == "undo":
        return "yes" if result else "no"
    return str(result)


def listener_at(house, start):
    """Return a listener with a start, or raise DaybookError for its row."""
    try:
        return Listener(house, start)
    except LiftError:
        raise DaybookError(START_ROW, 0) from None


def line_of(listener, words, row):
    """Return the line of the result of an entry, or raise DaybookError for its row."""
    try:
        return result_of(listener, words)
    except LiftError:
        raise DaybookError(row, 0) from None


class Daybook:
    """A daybook: its entries are executed by a listener, one after another."""

    def __init__(self, text):
        rows = rows_of(text)
        check_rows(rows)
        entries = rows[len(HEADS):]
        self._house = house_of(rows)
        self._start = numbers_of(rows[START_ROW][1:])
        listener = listener_at(self._house, self._start)
        lines = [line_of(listener, words, row) for row, words in enumerate(entries, len(HEADS))]
        self._results = "\n".join(lines)
        self._operations = [operation_of(words) for words in entries if words[0] not in QUESTIONS]

    @property
    def results(self):
        """The text with a line for the result of each entry."""
        return self._results

    def listener(self):
        """Return a listener behind all entries."""
        return Listener.replay(self._house, self._start, self._operations)

"""A house and a log as a list of integers with a checksum."""

from liftheard.errors import DecodeError, InvalidLog
from liftheard.hearing import LONGEST_GO, check_log, is_row_of
from liftheard.houses import LONGEST_GAP, MOST_GAPS, House

FIRST_ITEM = 76
MOST_ROWS = 200
# Codes of the kinds of rows; a bell that rings and one that does not have codes of their own.
GO = 0
RINGS = 1
IS_SILENT = 2
DOOR = 3
LOOK = 4
GAP = 5


def checksum(values):
    """Return the checksum of all items that stand ahead of it."""
    rest = 6
    for item in values:
        rest = (13 * rest + item) % 239
    return rest


def check_codable(house, log):
    """Raise InvalidLog for the first row that cannot be, is one too many, or is a look at no floor."""
    for index, row in enumerate(log):
        if index == MOST_ROWS or not is_row_of(house, row) or row == ("look", ()):
            raise InvalidLog(index)


def items_of(row):
    """Return the list of the items of a row."""
    if row[0] == "go":
        return [GO, row[1]]
    if row[0] == "bell":
        return [RINGS if row[1] else IS_SILENT]
    if row[0] == "look":
        return [LOOK, len(row[1]), *row[1]]
    return [DOOR if row[0] == "door" else GAP]


def encode_log(house, log):
    """Return the list of integers for a house and a log."""
    check_codable(house, log)
    values = [FIRST_ITEM, len(house.gaps), *house.gaps, len(house.bells), *house.bells, len(log)]
    for row in log:
        values.extend(items_of(row))
    return [*values, checksum(values)]


class Reader:
    """Takes the items of a list one after another, and raises DecodeError for the first one that is wrong."""

    def __init__(self, values):
        self._values = values
        self.offset = 0

    def take(self, least, most):
        """Return the next item, an integer that is at least and at most so much."""
        at = self.offset
        if at == len(self._values):
            raise DecodeError(at)
        item = self._values[at]
        if not isinstance(item, int) or isinstance(item, bool) or not least <= item <= most:
            raise DecodeError(at)
        self.offset = at + 1
        return item

    def take_gaps(self):
        """Return the tuple of the next items: how many gaps there are, and these."""
        number = self.take(1, MOST_GAPS)
        return tuple([self.take(1, LONGEST_GAP) for _ in range(number)])

    def take_floors(self, least):
        """Return the tuple of the next items: how many floors there are, at least so many, and these, ascending."""
        number = self.take(least, MOST_GAPS + 1)
        floors = []
        lowest = 0
        for _ in range(number):
            floor = self.take(lowest, MOST_GAPS)
            floors.append(floor)
            lowest = floor + 1
        return tuple(floors)

    def take_row(self):
        """Return the row of a log that the next items tell."""
        code = self.take(GO, GAP)
        if code == GO:
            return "go", self.take(1, LONGEST_GO)
        if code == LOOK:
            return "look", self.take_floors(1)
        if code in (RINGS, IS_SILENT):
            return "bell", code == RINGS
        return ("door",) if code == DOOR else ("gap",)

    def take_end(self):
        """Take the checksum of all items so far, behind which no item stands."""
        expected = checksum(self._values[:self.offset])
        self.take(expected, expected)
        if self.offset < len(self._values):
            raise DecodeError(self.offset)


def decode_log(values):
    """Return the house and the log of a list of integers."""
    reader = Reader(values)
    reader.take(FIRST_ITEM, FIRST_ITEM)
    gaps = reader.take_gaps()
    bells = reader.take_floors(0)
    number = reader.take(0, MOST_ROWS)
    log = [reader.take_row() for _ in range(number)]
    reader.take_end()
    house = House(gaps, bells)
    check_log(house, log)
    return house, log

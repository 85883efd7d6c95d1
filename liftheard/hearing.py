"""Where a lift can be behind a log of what was heard of it."""

from liftheard.errors import InvalidLog
from liftheard.houses import check_floors

LONGEST_GO = 81


def is_row_of(house, row):
    """Return whether a row can stand in a log of this house."""
    if row[0] == "go":
        return 1 <= row[1] <= LONGEST_GO
    if row[0] == "look":
        return all([floor in house.floors for floor in row[1]])
    return True


def check_log(house, log):
    """Raise InvalidLog for the first row that cannot stand in a log of this house."""
    for index, row in enumerate(log):
        if not is_row_of(house, row):
            raise InvalidLog(index)


def check_hearing(house, start, log):
    """Raise UnknownFloor for a start, then InvalidLog for a log that the house cannot have."""
    check_floors(house, start)
    check_log(house, log)


def next_floors(house, row, floor):
    """Return the ascending list of the floors to which a row can lead from a floor."""
    kind = row[0]
    if kind == "go":
        # A valid row lasts at least a second, so that the floor itself is not among these.
        return [other for other in house.floors if house.seconds(floor, other) == row[1]]
    if kind == "gap":
        return list(house.floors)
    if kind == "bell" and (floor in house.bells) != row[1]:
        return []
    if kind == "look" and floor not in row[1]:
        return []
    return [floor]


def floors_behind_row(house, row, floors):
    """Return the ascending list of the floors to which a row can lead from any of these floors."""
    return sorted({other for floor in floors for other in next_floors(house, row, floor)})


def floors_behind(house, start, log):
    """Return the ascending list of the floors on which the lift can be behind a log."""
    check_hearing(house, start, log)
    floors = list(start)
    for row in log:
        floors = floors_behind_row(house, row, floors)
    return floors


def first_wrong(house, start, log):
    """Return the index of the first row behind which the lift can be on no floor, or None."""
    check_hearing(house, start, log)
    floors = list(start)
    for index, row in enumerate(log):
        floors = floors_behind_row(house, row, floors)
        if not floors:
            return index
    return None

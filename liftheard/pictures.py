"""Pictures of a lift: where it is in its shaft, and where it can be at each moment."""

from liftheard.hearing import check_hearing
from liftheard.houses import check_floors
from liftheard.ways import links_of, numbers_through


def floor_line(house, floors, floor):
    """Return the line of a floor: whether it is one of some floors, and whether it has a bell."""
    sign = "@" if floor in floors else "."
    return sign + "b" if floor in house.bells else sign


def shaft(house, floors):
    """Return a picture of the shaft with some floors in it, the top one first."""
    check_floors(house, floors)
    lines = [floor_line(house, floors, 0)]
    for floor, gap in enumerate(house.gaps, 1):
        lines.append("|" * gap)
        lines.append(floor_line(house, floors, floor))
    return "\n".join(lines[::-1])


def table_line(numbers, floor):
    """Return the line of a floor: whether there is a way with the lift on it, for each moment."""
    signs = ["x" if numbers_then[floor] > 0 else "." for numbers_then in numbers]
    return f"{floor}: " + " ".join(signs)


def ways_table(house, start, log):
    """Return a table of the floors at which the lift can be at each moment, the top one first."""
    check_hearing(house, start, log)
    numbers = numbers_through(house, start, links_of(house, log))
    return "\n".join([table_line(numbers, floor) for floor in house.floors[::-1]])

"""All ways in which a log can have been heard, and the floors that are surely or perhaps in them."""

from liftheard.errors import InvalidNumber, NoWay
from liftheard.hearing import check_hearing, next_floors
from liftheard.houses import check_floors


def links_of(house, log):
    """Return for each row, and for each floor ahead of it, the list of the floors to which it can lead."""
    return [[next_floors(house, row, floor) for floor in house.floors] for row in log]


def numbers_ahead(house, links):
    """Return for each moment, and for each floor, how many ways lead from this floor to the end."""
    numbers = [[1] * len(house)]
    for ends_of_floors in reversed(links):
        behind = numbers[-1]
        numbers.append([sum([behind[end] for end in ends]) for ends in ends_of_floors])
    return numbers[::-1]


def numbers_behind(house, start, links):
    """Return for each moment, and for each floor, how many ways lead from the beginning to this floor."""
    numbers = [[1 if floor in start else 0 for floor in house.floors]]
    for ends_of_floors in links:
        behind = [0] * len(house)
        for number, ends in zip(numbers[-1], ends_of_floors):
            for end in ends:
                behind[end] += number
        numbers.append(behind)
    return numbers


def numbers_through(house, start, links):
    """Return for each moment, and for each floor, how many ways have the lift on this floor then."""
    numbers = []
    for behind, ahead in zip(numbers_behind(house, start, links), numbers_ahead(house, links)):
        numbers.append([one * other for one, other in zip(behind, ahead)])
    return numbers


def number_from(floors, numbers):
    """Return how many ways begin on any of these floors."""
    return sum([numbers[0][floor] for floor in floors])


def picked(floors, numbers, index):
    """Return the floor on which the way with this index goes on, and its index among the ways from there."""
    at = 0
    while index >= numbers[floors[at]]:
        index -= numbers[floors[at]]
        at += 1
    return floors[at], index


def numbered_way(start, links, numbers, index):
    """Return the way with an index, one that there is."""
    floor, index = picked(start, numbers[0], index)
    way = [floor]
    for ends_of_floors, behind in zip(links, numbers[1:]):
        floor, index = picked(ends_of_floors[floor], behind, index)
        way.append(floor)
    return tuple(way)


def ways(house, start, log):
    """Yield all ways in which a log can have been heard, ascending."""
    check_hearing(house, start, log)
    links = links_of(house, log)
    numbers = numbers_ahead(house, links)
    for index in range(number_from(start, numbers)):
        yield numbered_way(start, links, numbers, index)


def way_count(house, start, log):
    """Return the number of ways in which a log can have been heard."""
    check_hearing(house, start, log)
    return number_from(start, numbers_ahead(house, links_of(house, log)))


def way_at(house, start, log, index):
    """Return the way with an index among all ways, ascending."""
    check_hearing(house, start, log)
    links = links_of(house, log)
    numbers = numbers_ahead(house, links)
    if not 0 <= index < number_from(start, numbers):
        raise InvalidNumber(f"there is no way with the index {index}")
    return numbered_way(start, links, numbers, index)


def meets(row, begin, end, floor, goes_by):
    """Return whether a row that leads to an end has the lift on a floor, or, if wanted, going by it."""
    if goes_by and row[0] == "go":
        return min(begin, end) <= floor <= max(begin, end)
    return end == floor


def ends_without(row, begin, ends, floor, goes_by):
    """Return the floors among the ends to which a row leads without meeting a floor."""
    return [end for end in ends if not meets(row, begin, end, floor, goes_by)]


def links_without(log, links, floor, goes_by):
    """Return what is left of the links where the lift meets a floor in no row."""
    left = []
    for row, ends_of_floors in zip(log, links):
        left.append([ends_without(row, begin, ends, floor, goes_by) for begin, ends in enumerate(ends_of_floors)])
    return left


def verdict(house, start, log, floor, goes_by):
    """Return in how many of the ways the lift meets a floor: "surely", "perhaps" or "never"."""
    check_hearing(house, start, log)
    check_floors(house, (floor,))
    links = links_of(house, log)
    number = number_from(start, numbers_ahead(house, links))
    if number == 0:
        raise NoWay("this cannot have been heard in any way")
    others = [begin for begin in start if begin != floor]
    without = number_from(others, numbers_ahead(house, links_without(log, links, floor, goes_by)))
    if without == 0:
        return "surely"
    return "never" if without == number else "perhaps"


def judged(house, start, log, floor):
    """Return "surely", "perhaps" or "never", as a floor is in all, some or no ways."""
    return verdict(house, start, log, floor, False)


def passed(house, start, log, floor):
    """Return what `judged` does, where floors that the lift goes by in a row "go" count, too."""
    return verdict(house, start, log, floor, True)

"""What is known of a lift by what was heard and told of it."""

from liftheard.errors import NoWay
from liftheard.ways import links_of, numbers_through


class Known:
    """What is known behind some rows: its start and its links lead to no floor that was excluded."""

    def __init__(self, house, rows, start, links):
        self.rows = rows
        self.start = start
        self.links = links
        self.numbers = numbers_through(house, start, links)


def possible(known):
    """Return what is known if there is a way; else raise NoWay."""
    if way_number_of(known) == 0:
        raise NoWay("the lift cannot have gone in any way")
    return known


def beginning(house, start):
    """Return what is known before anything is heard."""
    return possible(Known(house, (), tuple(start), ()))


def behind_row(house, known, row):
    """Return what is known behind one more row."""
    ends_of_floors = links_of(house, [row])[0]
    return possible(Known(house, (*known.rows, row), known.start, (*known.links, ends_of_floors)))


def with_floors(house, known, moment, floors):
    """Return what is known if the lift was at one of some floors at a moment, too."""
    start = known.start
    links = list(known.links)
    if moment == 0:
        start = tuple([floor for floor in start if floor in floors])
    else:
        links[moment - 1] = [[end for end in ends if end in floors] for ends in links[moment - 1]]
    return possible(Known(house, known.rows, start, tuple(links)))


def way_number_of(known):
    """Return the number of ways."""
    return sum(known.numbers[0])


def floors_of(known, moment):
    """Return the ascending list of the floors at which the lift can have been at a moment."""
    return [floor for floor, number in enumerate(known.numbers[moment]) if number > 0]

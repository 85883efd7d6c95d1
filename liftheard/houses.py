"""Houses with a lift: their floors, the seconds between them, and their bells."""

from liftheard.errors import InvalidHouse, UnknownFloor

MOST_GAPS = 9
LONGEST_GAP = 9


def check_gaps(gaps):
    """Raise InvalidHouse for the first gap that cannot be."""
    if not gaps:
        raise InvalidHouse("gaps", 0)
    for index, gap in enumerate(gaps):
        if index == MOST_GAPS or not 1 <= gap <= LONGEST_GAP:
            raise InvalidHouse("gaps", index)


def check_bells(bells, floors):
    """Raise InvalidHouse for the first bell that is on no floor, or that does not ascend."""
    for index, bell in enumerate(bells):
        if bell not in floors or (index > 0 and bell <= bells[index - 1]):
            raise InvalidHouse("bells", index)


def check_floors(house, floors):
    """Raise UnknownFloor if the house does not have each of these floors."""
    for floor in floors:
        if floor not in house.floors:
            raise UnknownFloor(f"the house has no floor {floor}")


class House:
    """A house by the seconds between its floors, and by the floors with bells."""

    def __init__(self, gaps, bells):
        floors = tuple(range(len(gaps) + 1))
        check_gaps(gaps)
        check_bells(bells, floors)
        self._gaps = tuple(gaps)
        self._bells = tuple(bells)
        self._floors = floors

    @property
    def gaps(self):
        """The seconds from each floor to the next one."""
        return self._gaps

    @property
    def bells(self):
        """The floors with bells, ascending."""
        return self._bells

    @property
    def floors(self):
        """All floors, ascending."""
        return self._floors

    def __len__(self):
        return len(self._floors)

    def __eq__(self, other):
        return isinstance(other, House) and self._gaps == other._gaps and self._bells == other._bells

    def seconds(self, one, other):
        """Return the seconds from a floor to another one, without a stop."""
        check_floors(self, (one, other))
        return sum(self._gaps[min(one, other):max(one, other)])

    def turned(self):
        """Return the house upside down."""
        top = len(self._gaps)
        return House(self._gaps[::-1], tuple([top - bell for bell in reversed(self._bells)]))

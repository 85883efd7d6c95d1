"""The houses in which a log can have been heard."""

from liftheard.errors import InvalidNumber, TooMany
from liftheard.hearing import floors_behind
from liftheard.houses import House

MOST_HOUSES = 12
LEAST_COUNT = 2
MOST_COUNT = 5
LONGEST = 4


def houses_left(pool, start, log):
    """Return the ascending list of the indexes of the houses in which a log can have been heard."""
    if len(pool) > MOST_HOUSES:
        raise TooMany(f"a pool has at most {MOST_HOUSES} houses")
    return [index for index, house in enumerate(pool) if floors_behind(house, start, log)]


def all_gaps(count, most):
    """Return the ascending list of all tuples of so many gaps, each from 1 to a number."""
    found = [()]
    for _ in range(count):
        found = [(*gaps, gap) for gaps in found for gap in range(1, most + 1)]
    return found


def possible_gaps(bells, count, most, start, log):
    """Return the ascending list of the gaps of all houses of so many floors in which a log can have been heard."""
    if not LEAST_COUNT <= count <= MOST_COUNT:
        raise InvalidNumber(f"a house here has from {LEAST_COUNT} to {MOST_COUNT} floors")
    if not 1 <= most <= LONGEST:
        raise InvalidNumber(f"a gap here has at most from 1 to {LONGEST} seconds")
    return [gaps for gaps in all_gaps(count - 1, most) if floors_behind(House(gaps, bells), start, log)]

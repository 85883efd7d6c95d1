"""Bells that are wrong: silent on a floor with a bell, or ringing on one without."""

from liftheard.errors import InvalidNumber, NoWay
from liftheard.hearing import check_hearing
from liftheard.houses import check_floors
from liftheard.ways import links_of

MOST_WRONG = 3


def sets_of(floors, size):
    """Return the ascending list of all sets of so many of some ascending floors, as ascending tuples."""
    found = [()]
    for _ in range(size):
        found = [(*chosen, floor) for chosen in found for floor in floors if not chosen or floor > chosen[-1]]
    return found


def all_sets(floors):
    """Return the list of all sets of some ascending floors, as ascending tuples."""
    return [chosen for size in range(len(floors) + 1) for chosen in sets_of(floors, size)]


def can_be_heard(start, log, links, ringing):
    """Return whether there is a way if the bells of just these floors ring, whatever the house tells of them."""
    floors = list(start)
    for row, ends_of_floors in zip(log, links):
        if row[0] == "bell":
            # The links of such a row are of no use here: they are by the bells of the house.
            floors = [floor for floor in floors if (floor in ringing) == row[1]]
        else:
            floors = sorted({end for floor in floors for end in ends_of_floors[floor]})
    return len(floors) > 0


def ringing_with(house, wrong):
    """Return the list of the floors on which bells ring if they are wrong on just some floors."""
    return [floor for floor in house.floors if (floor in house.bells) != (floor in wrong)]


def wrong_bells(house, start, log, most):
    """Return the list of all sets of the fewest floors, of at most so many, by whose wrong bells there is a way."""
    check_hearing(house, start, log)
    if not 0 <= most <= MOST_WRONG:
        raise InvalidNumber(f"wrong bells are looked for on at most from 0 to {MOST_WRONG} floors")
    links = links_of(house, log)
    for size in range(most + 1):
        sets = sets_of(house.floors, size)
        found = [wrong for wrong in sets if can_be_heard(start, log, links, ringing_with(house, wrong))]
        if found:
            return found
    return []


def bell_judged(house, start, log, floor):
    """Return "right", "wrong" or "unsure", as a floor's bell is in all ways in which bells are always the same."""
    check_hearing(house, start, log)
    check_floors(house, (floor,))
    links = links_of(house, log)
    possible = [ringing for ringing in all_sets(house.floors) if can_be_heard(start, log, links, ringing)]
    if not possible:
        raise NoWay("this cannot have been heard in any way in which each bell is always the same")
    # A way without a row "bell" at the floor can be whether its bell rings or not.
    rings = [floor in ringing for ringing in possible]
    if any(rings) and not all(rings):
        return "unsure"
    return "right" if rings[0] == (floor in house.bells) else "wrong"

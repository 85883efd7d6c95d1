"""How a lift serves calls that come at seconds, also while it goes."""

from liftheard.errors import InvalidCalls
from liftheard.houses import check_floors
from liftheard.rules import check_rule, next_stop

LAST_SECOND = 1000000


def check_timed(house, calls):
    """Raise InvalidCalls for the first call whose second is out of range or falls, or that is of no floor."""
    last = 0
    for index, (second, floor) in enumerate(calls):
        if not last <= second <= LAST_SECOND or floor not in house.floors:
            raise InvalidCalls(index)
        last = second


def served_timed(house, rule, begin, calls):
    """Return the list of the stops of a lift, each with its second, as it serves calls that come at seconds."""
    check_rule(rule)
    check_floors(house, (begin,))
    check_timed(house, calls)
    here = begin
    is_up = True
    second = 0
    left = list(calls)
    stops = []
    while left:
        # The first call that is left came first: if it has not come yet, the lift waits for it.
        second = max(second, left[0][0])
        known = [floor for come, floor in left if come <= second]
        floor, is_up = next_stop(house, rule, here, is_up, known)
        second += house.seconds(here, floor)
        stops.append((floor, second))
        left = [(come, called) for come, called in left if called != floor or come > second]
        here = floor
    return stops

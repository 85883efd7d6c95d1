"""How a lift serves calls that come at seconds, also while it goes."""

from liftheard.errors import InvalidCalls
from liftheard.houses import check_floors
from liftheard.rules import check_rule, stops_of

LAST_SECOND = 1000000
MOST_CALLS = 30


def check_timed(house, calls):
    """Raise InvalidCalls for the first call that is one too many, of a second that cannot be, or of no floor."""
    last = 0
    for index, (second, floor) in enumerate(calls):
        if index == MOST_CALLS or not last <= second <= LAST_SECOND or floor not in house.floors:
            raise InvalidCalls(index)
        last = second


def served_timed(house, rule, begin, calls):
    """Return the list of the stops of a lift, each with its second, as it serves calls that come at seconds."""
    check_rule(rule)
    check_floors(house, (begin,))
    check_timed(house, calls)
    return stops_of(house, rule, begin, calls)

"""The order in which calls that come all at once wait least in sum."""

from liftheard.errors import TooMany
from liftheard.houses import check_floors
from liftheard.rules import check_calls
from liftheard.serving import waiting

MOST_CALLS = 6


def arranged(floors, count):
    """Return the list of all tuples of so many of these floors, each once; ascending if the floors are."""
    found = [()]
    for _ in range(count):
        found = [(*order, floor) for order in found for floor in floors if floor not in order]
    return found


def least_waiting(house, begin, calls):
    """Return the least sum of the seconds at which calls are served, of all orders, and the least such order."""
    check_floors(house, (begin,))
    check_calls(house, calls)
    if len(calls) > MOST_CALLS:
        raise TooMany(f"an order is looked for among at most {MOST_CALLS} calls")
    # By the rule "first" calls are served in the order in which they are given.
    return min([(waiting(house, "first", begin, order), order) for order in arranged(calls, len(calls))])

"""Calls that tell rules apart, and the rules that some nights obey."""

from liftheard.errors import InvalidNumber
from liftheard.houses import check_floors
from liftheard.orders import arranged
from liftheard.rules import RULES, check_all_calls, check_rule
from liftheard.serving import served

MOST_FLOORS = 4


def difference(house, one, other, begin, most):
    """Return the first calls of at most so many floors that two rules do not serve alike, or None."""
    check_rule(one)
    check_rule(other)
    check_floors(house, (begin,))
    if not 0 <= most <= MOST_FLOORS:
        raise InvalidNumber(f"calls here are of at most from 0 to {MOST_FLOORS} floors")
    for count in range(most + 1):
        for calls in arranged(house.floors, count):
            if served(house, one, begin, calls) != served(house, other, begin, calls):
                return calls
    return None


def is_obeyed(house, rule, begin, night):
    """Return whether a rule serves the calls of a night in the order of its stops."""
    calls, stops = night
    return [floor for floor, _ in served(house, rule, begin, calls)] == list(stops)


def rules_of(house, begin, nights):
    """Return the ascending list of all rules that each night, from the same floor on, obeys."""
    check_floors(house, (begin,))
    check_all_calls(house, [calls for calls, _ in nights])
    return [rule for rule in RULES if all([is_obeyed(house, rule, begin, night) for night in nights])]

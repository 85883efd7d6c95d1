"""How a lift serves calls that come all at once, and by which rules they wait least."""

from liftheard.houses import check_floors
from liftheard.rules import RULES, check_calls, check_rule, stops_of


def served(house, rule, begin, calls):
    """Return the list of the stops of a lift, each with its second, as it serves calls by a rule."""
    check_rule(rule)
    check_floors(house, (begin,))
    check_calls(house, calls)
    return stops_of(house, rule, begin, [(0, floor) for floor in calls])


def waiting(house, rule, begin, calls):
    """Return the sum of the seconds at which a lift serves its calls by a rule."""
    return sum([second for _, second in served(house, rule, begin, calls)])


def best_rules(house, begin, calls):
    """Return the ascending list of the rules by which the calls wait least in sum."""
    sums = [waiting(house, rule, begin, calls) for rule in RULES]
    least = min(sums)
    return [rule for rule, total in zip(RULES, sums) if total == least]

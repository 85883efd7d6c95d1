"""Two lifts of one house that are heard at once."""

from liftheard.errors import InvalidNumber, NoWay
from liftheard.hearing import check_log
from liftheard.houses import check_floors
from liftheard.ways import links_of


def check_two(house, one, other, log):
    """Raise UnknownFloor for the floors where two lifts begin, then InvalidLog for a log that the house cannot have."""
    check_floors(house, one)
    check_floors(house, other)
    check_log(house, log)


def pairs_of(one, other):
    """Return the ascending list of all tuples of a floor of the one and a floor of the other lift."""
    return [(here, there) for here in one for there in other]


def ends_by_one(pair, ends_of_floors):
    """Return the list of the pairs of floors to which a row of the first lift can lead from a pair."""
    here, there = pair
    return [(end, there) for end in ends_of_floors[here]]


def ends_by_other(pair, ends_of_floors):
    """Return the list of the pairs of floors to which a row of the second lift can lead from a pair."""
    here, there = pair
    return [(here, end) for end in ends_of_floors[there]]


def ends_by_either(pair, ends_of_floors):
    """Return the list of the pairs to which a row can lead: a pair is there twice if each lift can lead to it."""
    return ends_by_one(pair, ends_of_floors) + ends_by_other(pair, ends_of_floors)


def pairs_behind(pairs, links):
    """Return the ascending list of the pairs of floors at which the lifts can be behind some rows."""
    for ends_of_floors in links:
        pairs = sorted({end for pair in pairs for end in ends_by_either(pair, ends_of_floors)})
    return pairs


def two_floors(house, one, other, log):
    """Return the ascending list of the pairs of floors at which two lifts can be behind a log."""
    check_two(house, one, other, log)
    return pairs_behind(pairs_of(one, other), links_of(house, log))


def two_ways(house, one, other, log):
    """Return the number of ways in which a log can have been heard of two lifts."""
    check_two(house, one, other, log)
    numbers = {pair: 1 for pair in pairs_of(one, other)}
    for ends_of_floors in links_of(house, log):
        behind = {}
        for pair, number in numbers.items():
            for end in ends_by_either(pair, ends_of_floors):
                behind[end] = behind.get(end, 0) + number
        numbers = behind
    return sum(numbers.values())


def whose_row(house, one, other, log, index):
    """Return "one", "other" or "either", as a row is of the first lift in all ways, the second in all, or neither."""
    check_two(house, one, other, log)
    if not 0 <= index < len(log):
        raise InvalidNumber(f"there is no row with the index {index}")
    links = links_of(house, log)
    ahead = pairs_behind(pairs_of(one, other), links[:index])
    by_one = [end for pair in ahead for end in ends_by_one(pair, links[index])]
    by_other = [end for pair in ahead for end in ends_by_other(pair, links[index])]
    is_of_one = len(pairs_behind(by_one, links[index + 1:])) > 0
    is_of_other = len(pairs_behind(by_other, links[index + 1:])) > 0
    if is_of_one and is_of_other:
        return "either"
    if not is_of_one and not is_of_other:
        raise NoWay("this cannot have been heard of two lifts in any way")
    return "one" if is_of_one else "other"

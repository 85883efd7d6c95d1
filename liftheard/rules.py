"""The rules by which a lift serves calls, and what a lift and its calls have to be."""

from liftheard.errors import InvalidCalls, UnknownRule

RULES = ("first", "near", "sweep")


def check_rule(rule):
    """Raise UnknownRule for a word that is no rule."""
    if rule not in RULES:
        raise UnknownRule(f"there is no rule {rule}")


def wrong_call(house, calls):
    """Return the index of the first call that is no floor, or was called already; None if all are right."""
    for index, floor in enumerate(calls):
        if floor not in house.floors or floor in calls[:index]:
            return index
    return None


def check_calls(house, calls):
    """Raise InvalidCalls for the first call that is no floor, or was called already."""
    index = wrong_call(house, calls)
    if index is not None:
        raise InvalidCalls(index)


def check_all_calls(house, several):
    """Raise InvalidCalls for the first of several tuples of calls that cannot be."""
    for index, calls in enumerate(several):
        if wrong_call(house, calls) is not None:
            raise InvalidCalls(index)


def nearest(house, here, calls):
    """Return the floor of a call that is nearest by its seconds, of two the lower one."""
    return min(calls, key=lambda floor: (house.seconds(here, floor), floor))


def next_in_sweep(here, is_up, calls):
    """Return the floor to which a lift sweeps next, and whether its direction is up then."""
    if here in calls:
        return here, is_up
    above = [floor for floor in calls if floor > here]
    below = [floor for floor in calls if floor < here]
    if above and (is_up or not below):
        return min(above), True
    return max(below), False


def next_stop(house, rule, here, is_up, calls):
    """Return the floor to which a lift goes next by its rule, and whether its direction is up then."""
    if rule == "first":
        return calls[0], is_up
    if rule == "near":
        return nearest(house, here, calls), is_up
    return next_in_sweep(here, is_up, calls)


def stops_of(house, rule, begin, calls):
    """Return the list of the stops, each with its second, of a lift that serves calls, each a second and a floor."""
    here = begin
    is_up = True
    second = 0
    left = list(calls)
    stops = []
    while left:
        # The first call that is left came first: if it has not come yet, the lift waits for it.
        second = max(second, left[0][0])
        known = [floor for come, floor in left if come <= second]
        floor, is_up = next_stop(house, rule, here, is_up, known)
        second += house.seconds(here, floor)
        stops.append((floor, second))
        left = [(come, called) for come, called in left if called != floor or come > second]
        here = floor
    return stops

"""Who can have ridden in a lift: riders who get in at a stop, and out at a later one."""

from liftheard.errors import InvalidRiders
from liftheard.hearing import check_hearing, next_floors

MOST_RIDERS = 6
# A rider's stage is the number of the two floors, in order, at which the lift has stopped so far.
WAITING = 0
ARRIVED = 2


def check_riders(house, riders):
    """Raise InvalidRiders for the first rider who cannot ride in this house, or is one too many."""
    for index, (begin, end) in enumerate(riders):
        if index == MOST_RIDERS or begin == end or begin not in house.floors or end not in house.floors:
            raise InvalidRiders(index)


def stage_behind(rider, stage, stop):
    """Return the stage of a rider behind one more stop."""
    return stage + 1 if stage < ARRIVED and rider[stage] == stop else stage


def stages_behind(riders, stages, stop):
    """Return the stages of all riders behind one more stop, or None if it is of no rider."""
    if not any([stop in rider for rider in riders]):
        return None
    return tuple([stage_behind(rider, stage, stop) for rider, stage in zip(riders, stages)])


def all_waiting(riders):
    """Return the stages of all riders ahead of any stop."""
    return (WAITING,) * len(riders)


def all_arrived(stages):
    """Return whether all riders are where they want to be."""
    return all([stage == ARRIVED for stage in stages])


def fits(house, stops, riders):
    """Return whether riders fit a tuple of stops."""
    check_riders(house, riders)
    stages = all_waiting(riders)
    for stop in stops:
        stages = stages_behind(riders, stages, stop)
        if stages is None:
            return False
    return all_arrived(stages)


def next_states(house, row, riders, state):
    """Return the list of the states, a floor and the stages, to which a row can lead from one."""
    floor, stages = state
    if row[0] == "door":
        stages = stages_behind(riders, stages, floor)
        if stages is None:
            return []
    return [(end, stages) for end in next_floors(house, row, floor)]


def rider_ways(house, start, log, riders):
    """Return the ascending list of all ways that stop, at the rows "door", as riders fit it."""
    check_riders(house, riders)
    check_hearing(house, start, log)
    begins = [(floor, all_waiting(riders)) for floor in start]
    states = begins
    layers = []
    for row in log:
        links = {state: next_states(house, row, riders, state) for state in states}
        layers.append(links)
        states = sorted({end for ends in links.values() for end in ends})
    # From the end to the beginning, so that no part of a way is written out that leads nowhere.
    tails = {state: [(state[0],)] if all_arrived(state[1]) else [] for state in states}
    for links in reversed(layers):
        tails = {
            state: [(state[0], *tail) for end in ends for tail in tails[end]] for state, ends in links.items()
        }
    return [way for state in begins for way in tails[state]]

"""Nights on which the same calls come, far out, and guesses at the rule by which nights were served."""

from liftheard.errors import InvalidNights, InvalidNumber
from liftheard.hearing import is_row_of
from liftheard.houses import check_floors
from liftheard.rules import RULES, check_all_calls, wrong_call
from liftheard.serving import served
from liftheard.sounds import sounds

MOST_NIGHTS = 1000000000000000000


def night(house, rule, begin, calls):
    """Return the floor at which the lift stops behind a night, and the seconds that it went."""
    stops = served(house, rule, begin, calls)
    return stops[-1] if stops else (begin, 0)


def nights_until_again(house, rule, begin, calls):
    """Return where nights begin and their seconds, until one begins where an earlier one did, and that one's index."""
    begins = []
    seconds = []
    floor = begin
    while floor not in begins:
        begins.append(floor)
        floor, lasting = night(house, rule, floor, calls)
        seconds.append(lasting)
    return begins, seconds, begins.index(floor)


def check_count(count):
    """Raise InvalidNumber for a number of nights that is out of range."""
    if not 0 <= count <= MOST_NIGHTS:
        raise InvalidNumber(f"there are from 0 to {MOST_NIGHTS} nights")


def floor_after(house, rule, begin, calls, count):
    """Return the floor at which the lift stops after so many nights."""
    begins, _, again = nights_until_again(house, rule, begin, calls)
    check_count(count)
    if count < again:
        return begins[count]
    return begins[again + (count - again) % (len(begins) - again)]


def seconds_after(house, rule, begin, calls, count):
    """Return how many seconds the lift went in so many nights."""
    _, seconds, again = nights_until_again(house, rule, begin, calls)
    check_count(count)
    if count < again:
        return sum(seconds[:count])
    rounds, rest = divmod(count - again, len(seconds) - again)
    return sum(seconds[:again + rest]) + rounds * sum(seconds[again:])


def first_night(house, rule, begin, calls, floor):
    """Return the index of the first night that begins at a floor, or None."""
    begins, _, _ = nights_until_again(house, rule, begin, calls)
    check_floors(house, (floor,))
    return begins.index(floor) if floor in begins else None


def is_night_of(house, calls, log):
    """Return whether a night can have these calls and this log."""
    return wrong_call(house, calls) is None and all([is_row_of(house, row) for row in log])


def check_nights(house, nights):
    """Raise InvalidNights for the first night of which the calls or the log cannot be."""
    for index, (calls, log) in enumerate(nights):
        if not is_night_of(house, calls, log):
            raise InvalidNights(index)


def night_heard(house, rule, begin, calls):
    """Return the log that is heard of a night, and the floor at which the lift stops behind it."""
    stops = [floor for floor, _ in served(house, rule, begin, calls)]
    return sounds(house, begin, stops), stops[-1] if stops else begin


def floor_behind(house, rule, begin, nights):
    """Return the floor at which the lift stops behind some nights, None if they are not heard so."""
    here = begin
    for calls, log in nights:
        heard, here = night_heard(house, rule, here, calls)
        if heard != log:
            return None
    return here


def guesses(house, nights):
    """Return the ascending list of all tuples of a rule and a beginning by which nights are heard so."""
    check_nights(house, nights)
    pairs = [(rule, begin) for rule in RULES for begin in house.floors]
    return [(rule, begin) for rule, begin in pairs if floor_behind(house, rule, begin, nights) is not None]


def most_left(house, places, calls):
    """Return how many guesses are left in the worst case behind a night from their tuples of a rule and a floor."""
    numbers = {}
    for rule, floor in places:
        heard, _ = night_heard(house, rule, floor, calls)
        numbers[tuple(heard)] = numbers.get(tuple(heard), 0) + 1
    return max(numbers.values())


def next_night(house, nights, options):
    """Return the index of the first tuple of calls that leaves the fewest guesses in the worst case, or None."""
    found = guesses(house, nights)
    check_all_calls(house, options)
    if not found or not options:
        return None
    places = [(rule, floor_behind(house, rule, begin, nights)) for rule, begin in found]
    numbers = [most_left(house, places, calls) for calls in options]
    return numbers.index(min(numbers))

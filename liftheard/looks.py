"""Looking at the right moment, and seconds that are heard wrongly."""

from liftheard.errors import InvalidNumber, TooMany
from liftheard.hearing import check_hearing, next_floors
from liftheard.ways import links_of, numbers_through, way_count, ways

MOST_WAYS = 60
MOST_ROWS = 8
MOST_SLACK = 9


def floors_at(house, start, log, moment):
    """Return the ascending list of the floors at which the lift can be at a moment, by the whole log."""
    check_hearing(house, start, log)
    if not 0 <= moment <= len(log):
        raise InvalidNumber(f"there is no moment {moment}")
    numbers = numbers_through(house, start, links_of(house, log))[moment]
    return [floor for floor in house.floors if numbers[floor] > 0]


def best_moment(house, start, log):
    """Return the first moment at which a look leaves the fewest ways in the worst case, or None."""
    check_hearing(house, start, log)
    worst = [max(numbers) for numbers in numbers_through(house, start, links_of(house, log))]
    fewest = min(worst)
    return worst.index(fewest) if fewest > 0 else None


def parts_seen(found, moment):
    """Return the list of the parts into which a look at a moment splits a tuple of ways."""
    parts = {}
    for way in found:
        parts.setdefault(way[moment], []).append(way)
    return [tuple(part) for part in parts.values()]


def looks_needed(found, kept):
    """Return how many looks tell some ways apart in the worst case; what is worked out is kept in a dict."""
    if len(found) < 2:
        return 0
    if found not in kept:
        splits = [parts_seen(found, moment) for moment in range(len(found[0]))]
        # A look that leaves all ways is of no use.
        useful = [parts for parts in splits if len(parts) > 1]
        kept[found] = 1 + min([max([looks_needed(part, kept) for part in parts]) for parts in useful])
    return kept[found]


def fewest_looks(house, start, log):
    """Return how many looks are needed in the worst case until at most one way is left."""
    number = way_count(house, start, log)
    if number > MOST_WAYS or len(log) > MOST_ROWS:
        raise TooMany(f"looks are counted for at most {MOST_WAYS} ways and {MOST_ROWS} rows")
    found = tuple(ways(house, start, log))
    return looks_needed(found, {})


def next_floors_by(house, row, floor, slack):
    """Return the ascending list of the floors to which a row can lead from a floor, by a slack of seconds."""
    if row[0] != "go":
        return next_floors(house, row, floor)
    others = [other for other in house.floors if other != floor]
    return [other for other in others if abs(house.seconds(floor, other) - row[1]) <= slack]


def floors_left(house, start, log, slack):
    """Return the ascending list of the floors at which the lift can be behind a log, by a slack of seconds."""
    floors = list(start)
    for row in log:
        floors = sorted({other for floor in floors for other in next_floors_by(house, row, floor, slack)})
    return floors


def floors_by(house, start, log, slack):
    """Return `floors_left`, for a start, a log and a slack that can be."""
    check_hearing(house, start, log)
    if not 0 <= slack <= MOST_SLACK:
        raise InvalidNumber(f"a slack is from 0 to {MOST_SLACK} seconds")
    return floors_left(house, start, log, slack)


def least_slack(house, start, log):
    """Return the least slack by which the lift can be anywhere behind a log, or None."""
    check_hearing(house, start, log)
    for slack in range(MOST_SLACK + 1):
        if floors_left(house, start, log, slack):
            return slack
    return None

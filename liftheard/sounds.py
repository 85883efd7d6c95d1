"""What is heard of a lift that stops at some floors."""

from liftheard.houses import check_floors


def sounds(house, begin, stops):
    """Return the log that is heard if a lift stops at some floors, one after another."""
    check_floors(house, (begin, *stops))
    log = []
    here = begin
    for floor in stops:
        if floor != here:
            log.append(("go", house.seconds(here, floor)))
        log.append(("bell", floor in house.bells))
        log.append(("door",))
        here = floor
    return log

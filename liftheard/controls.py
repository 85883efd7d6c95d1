"""A lift at work: it serves calls as they come."""

from liftheard.errors import NoCall
from liftheard.houses import check_floors
from liftheard.rules import check_rule, next_stop
from liftheard.sounds import sounds


class Control:
    """A lift that is called to floors, and that goes from call to call by its rule."""

    def __init__(self, house, rule, begin):
        check_rule(rule)
        check_floors(house, (begin,))
        self._house = house
        self._rule = rule
        self._begin = begin
        self._stops = []
        self._here = begin
        self._clock = 0
        self._open_calls = ()
        self._is_up = True

    @property
    def here(self):
        """The floor where the lift is."""
        return self._here

    @property
    def clock(self):
        """The seconds that the lift went in all."""
        return self._clock

    @property
    def open_calls(self):
        """The tuple of the open calls, in the order in which they came."""
        return self._open_calls

    @property
    def is_up(self):
        """Whether the direction of the lift is up."""
        return self._is_up

    def call(self, floor):
        """Call the lift to a floor, and return how many calls are open then."""
        check_floors(self._house, (floor,))
        if floor not in self._open_calls:
            self._open_calls = (*self._open_calls, floor)
        return len(self._open_calls)

    def serve(self):
        """Let the lift go to its next call, and return a tuple of the floor and the seconds that it went."""
        if not self._open_calls:
            raise NoCall("no call is open")
        floor, self._is_up = next_stop(self._house, self._rule, self._here, self._is_up, self._open_calls)
        seconds = self._house.seconds(self._here, floor)
        self._open_calls = tuple([called for called in self._open_calls if called != floor])
        self._here = floor
        self._clock += seconds
        self._stops.append(floor)
        return floor, seconds

    def serve_all(self):
        """Let the lift go until no call is open, and return the list of the tuples that `serve` returns."""
        served_calls = []
        while self._open_calls:
            served_calls.append(self.serve())
        return served_calls

    def heard(self):
        """Return the log of all stops so far."""
        return sounds(self._house, self._begin, self._stops)

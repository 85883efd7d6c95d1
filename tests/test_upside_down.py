"""Point 16: in a house that is upside down all is heard and told upside down."""

import itertools
import unittest

from liftheard.codec import decode_log, encode_log
from liftheard.controls import Control
from liftheard.daybooks import Daybook
from liftheard.errors import NoWay
from liftheard.farnights import first_night, floor_after, guesses, seconds_after
from liftheard.hearing import first_wrong, floors_behind
from liftheard.houses import House
from liftheard.listeners import Listener
from liftheard.looks import best_moment, fewest_looks, floors_at, floors_by, least_slack
from liftheard.nights import rules_of
from liftheard.notation import format_log, parse_log
from liftheard.orders import least_waiting
from liftheard.pairs import two_floors, two_ways, whose_row
from liftheard.pictures import shaft, ways_table
from liftheard.pools import houses_left, possible_gaps
from liftheard.riders import fits, rider_ways
from liftheard.serving import served, waiting
from liftheard.sounds import sounds
from liftheard.timed import served_timed
from liftheard.ways import judged, passed, way_count, ways
from liftheard.wrongs import bell_judged, wrong_bells

HOUSES = (House((3, 2, 4), (1, 3)), House((1, 1, 2), (0,)), House((2, 1, 1), (0, 1, 2)), House((1, 2, 3), ()))
STARTS = ((0, 1, 2, 3), (0, 1), (3,), ())
LOGS = (
    [], [("go", 3)], [("gap",), ("bell", True)], [("go", 2), ("bell", False), ("door",)], [("go", 1), ("go", 2)],
    [("look", (0, 3)), ("door",), ("gap",), ("door",)], [("go", 9)], [("bell", True), ("go", 5), ("look", (1, 2))],
    [("gap",), ("go", 4), ("bell", True)], [("bell", False), ("gap",), ("look", (0, 1)), ("bell", True)],
)
HEARD = tuple(itertools.product(HOUSES, STARTS, LOGS))
TOP = 3


def turned(floors):
    """The floors of a tuple upside down, in their order."""
    return tuple(TOP - floor for floor in floors)


def turned_set(floors):
    return tuple(sorted(turned(floors)))


def turned_all(found):
    return sorted(turned(floors) for floors in found)


def turned_log(log):
    return [("look", turned_set(row[1])) if row[0] == "look" else row for row in log]


def answer(ask, *arguments):
    try:
        return ask(*arguments)
    except NoWay:
        return "no way"


class UpsideDown(unittest.TestCase):

    def each_heard(self):
        for house, start, log in HEARD:
            yield (house, start, log), (house.turned(), turned_set(start), turned_log(log))


class TestHearing(UpsideDown):

    def test_floors(self):
        for one, other in self.each_heard():
            self.assertEqual(floors_behind(*other), sorted(turned(floors_behind(*one))))
            self.assertEqual(first_wrong(*other), first_wrong(*one))

    def test_ways(self):
        for one, other in self.each_heard():
            self.assertEqual(list(ways(*other)), turned_all(ways(*one)))
            self.assertEqual(way_count(*other), way_count(*one))

    def test_words(self):
        for one, other in self.each_heard():
            for ask in (judged, passed, bell_judged):
                for floor in range(4):
                    self.assertEqual(answer(ask, *other, TOP - floor), answer(ask, *one, floor))

    def test_pools(self):
        for start, log in itertools.product(STARTS, LOGS):
            upside_down = tuple(house.turned() for house in HOUSES)
            self.assertEqual(houses_left(upside_down, turned_set(start), turned_log(log)),
                             houses_left(HOUSES, start, log))
            found = possible_gaps((0, 1), 4, 3, start, log)
            self.assertEqual(possible_gaps((2, 3), 4, 3, turned_set(start), turned_log(log)),
                             sorted(gaps[::-1] for gaps in found))

    def test_riders(self):
        riders = [(0, 2), (3, 1)]
        upside_down = [turned(rider) for rider in riders]
        for one, other in self.each_heard():
            self.assertEqual(rider_ways(*other, upside_down), turned_all(rider_ways(*one, riders)))
        for stops in itertools.product(range(4), repeat=4):
            self.assertEqual(fits(HOUSES[0].turned(), turned(stops), upside_down), fits(HOUSES[0], stops, riders))


class TestListeners(UpsideDown):

    def test_what_is_heard_and_told(self):
        for (house, start, log), other in self.each_heard():
            if not start or first_wrong(house, start, log) is not None:
                continue
            operations = [("hear", row) for row in log] + [("mark", "a"), ("told", len(log), (0, 1, 2, 3)), ("go", "a")]
            one = Listener(house, start)
            upside_down = Listener(other[0], other[1])
            for name, *arguments in operations:
                turned_ones = arguments
                if name == "hear":
                    turned_ones = turned_log(arguments)
                if name == "told":
                    turned_ones = [arguments[0], turned_set(arguments[1])]
                self.assertEqual(getattr(upside_down, name)(*turned_ones), getattr(one, name)(*arguments))
                self.assertEqual(upside_down.floors, turned_set(one.floors))
                self.assertEqual(upside_down.way_number(), one.way_number())
            for moment in range(len(log) + 1):
                self.assertEqual(upside_down.floors_then(moment), sorted(turned(one.floors_then(moment))))
                floors = (one.floors_then(moment)[0],)
                one.told(moment, floors)
                upside_down.told(moment, turned_set(floors))


class TestLooks(UpsideDown):

    def test_moments(self):
        for one, other in self.each_heard():
            for moment in range(len(one[2]) + 1):
                self.assertEqual(floors_at(*other, moment), sorted(turned(floors_at(*one, moment))))
            self.assertEqual(best_moment(*other), best_moment(*one))
            self.assertEqual(fewest_looks(*other), fewest_looks(*one))

    def test_slack(self):
        for one, other in self.each_heard():
            for slack in range(4):
                self.assertEqual(floors_by(*other, slack), sorted(turned(floors_by(*one, slack))))
            self.assertEqual(least_slack(*other), least_slack(*one))

    def test_wrong_bells(self):
        for one, other in self.each_heard():
            for most in range(4):
                found = sorted(turned_set(floors) for floors in wrong_bells(*one, most))
                self.assertEqual(wrong_bells(*other, most), found)

    def test_two_lifts(self):
        for house, start, log in HEARD:
            one = house, start, (0, 2), log
            other = house.turned(), turned_set(start), (1, 3), turned_log(log)
            self.assertEqual(two_floors(*other), turned_all(two_floors(*one)))
            self.assertEqual(two_ways(*other), two_ways(*one))
            for index in range(len(log)):
                self.assertEqual(answer(whose_row, *other, index), answer(whose_row, *one, index))


class TestTexts(UpsideDown):

    def test_codes_and_texts(self):
        for (house, _, log), (other, _, turned_rows) in self.each_heard():
            self.assertEqual(decode_log(encode_log(other, turned_rows)), (house.turned(), turned_log(log)))
            self.assertEqual(parse_log(format_log(other, turned_rows)), (house.turned(), turned_log(log)))
            self.assertEqual(decode_log(encode_log(other, turned_rows))[0].turned(), house)
            self.assertEqual(len(encode_log(other, turned_rows)), len(encode_log(house, log)))

    def test_pictures(self):
        for (house, start, log), other in self.each_heard():
            lines = [line[3:] for line in ways_table(house, start, log).split("\n")]
            self.assertEqual([line[3:] for line in ways_table(*other).split("\n")], lines[::-1])
            self.assertEqual(shaft(other[0], other[1]).split("\n"), shaft(house, start).split("\n")[::-1])

    def test_daybooks(self):
        for (house, start, log), (other, turned_start, turned_rows) in self.each_heard():
            if start and first_wrong(house, start, log) is None:
                results = []
                for book, places, rows in ((house, start, log), (other, turned_start, turned_rows)):
                    gaps, bells, *entries = format_log(book, rows).split("\n")
                    head = " ".join(["start", *map(str, places)])
                    asks = ["ways"] + [f"then {moment}" for moment in range(len(rows) + 1)] + ["floors"]
                    results.append(Daybook("\n".join([gaps, bells, head, *entries, *asks])).results.split("\n"))
                one, upside_down = results
                at = len(log) + 1
                self.assertEqual(upside_down[:at], one[:at])
                for line, turned_line in zip(one[at:], upside_down[at:]):
                    floors = [int(floor) for floor in line.split(",")]
                    self.assertEqual([int(floor) for floor in turned_line.split(",")], sorted(turned(floors)))


class TestServing(UpsideDown):

    def each_calls(self):
        for house, begin, count in itertools.product(HOUSES, range(4), range(5)):
            for calls in itertools.permutations(range(4), count):
                yield house, begin, calls

    def test_least_waiting(self):
        for house, begin, calls in self.each_calls():
            upside_down = least_waiting(house.turned(), TOP - begin, turned(calls))
            self.assertEqual(upside_down[0], least_waiting(house, begin, calls)[0])

    def test_first(self):
        for house, begin, calls in self.each_calls():
            upside_down = house.turned(), "first", TOP - begin, turned(calls)
            stops = served(house, "first", begin, calls)
            self.assertEqual(served(*upside_down), [(TOP - floor, second) for floor, second in stops])
            self.assertEqual(waiting(*upside_down), waiting(house, "first", begin, calls))
            night = turned(calls), turned(calls)
            self.assertIn("first", rules_of(house.turned(), TOP - begin, [night]))

    def test_first_at_seconds(self):
        calls = [(0, 2), (1, 3), (2, 0), (9, 3), (40, 1), (40, 0)]
        for house, begin in itertools.product(HOUSES, range(4)):
            stops = served_timed(house, "first", begin, calls)
            upside_down = [(second, TOP - floor) for second, floor in calls]
            self.assertEqual(served_timed(house.turned(), "first", TOP - begin, upside_down),
                             [(TOP - floor, second) for floor, second in stops])

    def test_sounds(self):
        for house, begin in itertools.product(HOUSES, range(4)):
            for stops in itertools.product(range(4), repeat=3):
                self.assertEqual(sounds(house.turned(), TOP - begin, turned(stops)), sounds(house, begin, stops))

    def test_first_in_nights_far_out(self):
        for house, begin, calls in self.each_calls():
            one = house, "first", begin, calls
            other = house.turned(), "first", TOP - begin, turned(calls)
            for count in (0, 1, 2, 10 ** 18):
                self.assertEqual(floor_after(*other, count), TOP - floor_after(*one, count))
                self.assertEqual(seconds_after(*other, count), seconds_after(*one, count))
            for floor in house.floors:
                self.assertEqual(first_night(*other, TOP - floor), first_night(*one, floor))

    def test_first_among_guesses(self):
        for house, begin, calls in self.each_calls():
            log = sounds(house, begin, calls)
            found = [floor for rule, floor in guesses(house, [(calls, log)]) if rule == "first"]
            self.assertIn(begin, found)
            upside_down = guesses(house.turned(), [(turned(calls), log)])
            self.assertEqual([floor for rule, floor in upside_down if rule == "first"], sorted(turned(found)))

    def test_first_at_work(self):
        for house, begin, calls in self.each_calls():
            one, other = Control(house, "first", begin), Control(house.turned(), "first", TOP - begin)
            for floor in calls:
                self.assertEqual(other.call(TOP - floor), one.call(floor))
            self.assertEqual(other.serve_all(), [(TOP - floor, seconds) for floor, seconds in one.serve_all()])
            self.assertEqual((other.heard(), other.clock), (one.heard(), one.clock))

    def test_what_is_chosen_by_lower_floors_is_not_turned(self):
        even = House((2, 2), ())
        self.assertEqual([served(even, "near", 1, (0, 2)), served(even.turned(), "near", 1, (2, 0))],
                         [[(0, 2), (2, 6)]] * 2)
        self.assertEqual([served(even, "sweep", 1, (0, 2)), served(even.turned(), "sweep", 1, (2, 0))],
                         [[(2, 2), (0, 6)]] * 2)
        self.assertEqual([least_waiting(even, 1, (0, 2)), least_waiting(even.turned(), 1, (2, 0))], [(8, (0, 2))] * 2)


if __name__ == "__main__":
    unittest.main()

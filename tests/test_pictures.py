"""Point 27: a picture of the shaft, and a table of the ways."""

import itertools
import unittest

from liftheard.errors import InvalidLog, UnknownFloor
from liftheard.houses import House
from liftheard.looks import floors_at
from liftheard.pictures import shaft, ways_table

SMALL = House((3, 4), (1,))
HOUSE = House((3, 2, 4), (1, 3))


class TestExamples(unittest.TestCase):

    def test_values(self):
        self.assertEqual(shaft(SMALL, (0,)), ".\n||||\n.b\n|||\n@")
        self.assertEqual(ways_table(SMALL, (0, 2), [("go", 4)]), "2: x .\n1: . x\n0: . .")


class TestShaft(unittest.TestCase):

    def test_two_floors(self):
        for bells, signs in (((), ("", "")), ((0,), ("b", "")), ((1,), ("", "b")), ((0, 1), ("b", "b"))):
            for gap in (1, 9):
                house = House((gap,), bells)
                lowest, upper = signs
                line = "\n" + "|" * gap + "\n"
                self.assertEqual(shaft(house, ()), "." + upper + line + "." + lowest)
                self.assertEqual(shaft(house, (0,)), "." + upper + line + "@" + lowest)
                self.assertEqual(shaft(house, (1,)), "@" + upper + line + "." + lowest)
                self.assertEqual(shaft(house, (0, 1)), "@" + upper + line + "@" + lowest)

    def test_ten_floors(self):
        for gap in (1, 9):
            line = "|" * gap
            house = House((gap,) * 9, ())
            self.assertEqual(shaft(house, ()), "\n".join(["."] + [line, "."] * 9))
            self.assertEqual(shaft(house, house.floors), "\n".join(["@"] + [line, "@"] * 9))
            self.assertEqual(shaft(house, (9,)), "\n".join(["@"] + [line, "."] * 9))
            with_bells = House((gap,) * 9, tuple(range(10)))
            self.assertEqual(shaft(with_bells, (0,)), "\n".join([".b"] + [line, ".b"] * 8 + [line, "@b"]))

    def test_gaps_stand_between_their_floors(self):
        self.assertEqual(shaft(HOUSE, (1, 2)), ".b\n||||\n@\n||\n@b\n|||\n.")
        self.assertEqual(shaft(HOUSE, (1, 3)), "@b\n||||\n.\n||\n@b\n|||\n.")
        self.assertEqual(shaft(HOUSE.turned(), (0, 3)), "@\n|||\n.b\n||\n.\n||||\n@b")

    def test_unknown_floors(self):
        for floors in ((4,), (-1,), (0, 1, 7)):
            with self.assertRaises(UnknownFloor):
                shaft(HOUSE, floors)


class TestTable(unittest.TestCase):

    def test_empty_log(self):
        self.assertEqual(ways_table(HOUSE, (0, 2), []), "3: .\n2: x\n1: .\n0: x")
        self.assertEqual(ways_table(HOUSE, (), []), "3: .\n2: .\n1: .\n0: .")

    def test_empty_start(self):
        self.assertEqual(ways_table(SMALL, (), [("gap",), ("door",)]), "2: . . .\n1: . . .\n0: . . .")

    def test_no_way(self):
        self.assertEqual(ways_table(SMALL, (0, 1, 2), [("gap",), ("go", 5)]), "2: . . .\n1: . . .\n0: . . .")

    def test_by_the_whole_log(self):
        log = [("gap",), ("bell", True)]
        self.assertEqual(ways_table(SMALL, (0, 2), log[:1]), "2: x x\n1: . x\n0: x x")
        self.assertEqual(ways_table(SMALL, (0, 2), log), "2: x . .\n1: . x x\n0: x . .")
        self.assertEqual(ways_table(SMALL, (0, 2), [*log, ("go", 3), ("gap",)]),
                         "2: x . . . x\n1: . x x . x\n0: x . . x x")

    def test_ten_floors(self):
        house = House((1,) * 9, ())
        lines = [f"{floor}: {'x' if floor == 4 else '.'} {'x' if floor in (3, 5) else '.'}" for floor in range(10)]
        self.assertEqual(ways_table(house, (4,), [("go", 1)]), "\n".join(lines[::-1]))

    def test_as_floors_at(self):
        logs = ([("go", 2)], [("gap",), ("go", 4), ("bell", True)], [("go", 2), ("gap",), ("look", (0, 3)), ("door",)])
        for start, log in itertools.product(((0, 1, 2, 3), (1, 2), (3,), ()), logs):
            found = [floors_at(HOUSE, start, log, moment) for moment in range(len(log) + 1)]
            lines = [f"{floor}:" + "".join(" x" if floor in floors else " ." for floors in found) for floor in range(4)]
            self.assertEqual(ways_table(HOUSE, start, log), "\n".join(lines[::-1]))

    def test_errors(self):
        for start in ((4,), (0, -1)):
            for log in ([], [("go", 0)]):
                with self.assertRaises(UnknownFloor):
                    ways_table(HOUSE, start, log)
        for row, count in itertools.product((("go", 0), ("go", 82), ("look", (4,))), range(2)):
            with self.assertRaises(InvalidLog) as caught:
                ways_table(HOUSE, (), [("gap",)] * count + [row, ("go", 0)])
            self.assertEqual(caught.exception.index, count)

    def test_arguments_are_unchanged(self):
        log = [("gap",), ("bell", True)]
        for _ in range(2):
            self.assertEqual(ways_table(SMALL, (0, 2), log), "2: x . .\n1: . x x\n0: x . .")
            self.assertEqual(log, [("gap",), ("bell", True)])


if __name__ == "__main__":
    unittest.main()

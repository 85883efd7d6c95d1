"""Point 20: two lifts side by side."""

import unittest

from liftheard.errors import InvalidLog, InvalidNumber, NoWay, UnknownFloor
from liftheard.houses import House
from liftheard.pairs import two_floors, two_ways, whose_row

HOUSE = House((3, 4), (1,))
GAP = ("gap",)
DOOR = ("door",)


class PairCase(unittest.TestCase):

    def assert_heard(self, one, other, log, floors, number, words):
        self.assertEqual(two_floors(HOUSE, one, other, log), floors)
        self.assertEqual(two_ways(HOUSE, one, other, log), number)
        self.assertEqual([whose_row(HOUSE, one, other, log, index) for index in range(len(log))], words)

    def assert_not_heard(self, one, other, log):
        self.assertEqual((two_floors(HOUSE, one, other, log), two_ways(HOUSE, one, other, log)), ([], 0))
        for index in range(len(log)):
            with self.assertRaises(NoWay):
                whose_row(HOUSE, one, other, log, index)


class TestExamples(PairCase):

    def test_values(self):
        log = [("go", 3), ("go", 4), DOOR]
        self.assertEqual([two_floors(HOUSE, (0,), (2,), log), two_ways(HOUSE, (0,), (2,), log)],
                         [[(1, 1), (2, 2)], 4])
        self.assertEqual([whose_row(HOUSE, (0,), (2,), log, index) for index in range(3)], ["one", "either", "either"])


class TestTwoLifts(PairCase):

    def test_rows_of_one_lift_alone(self):
        self.assert_heard((0,), (1,), [("go", 7)], [(2, 1)], 1, ["one"])
        self.assert_heard((1,), (0,), [("go", 7)], [(1, 2)], 1, ["other"])
        self.assert_heard((1,), (0,), [("go", 7), ("go", 7)], [(1, 0)], 1, ["other", "other"])

    def test_by_turns(self):
        log = [("go", 7), ("go", 4), ("go", 7)]
        self.assert_heard((0,), (1,), log, [(0, 2), (2, 0)], 2, ["one", "other", "either"])

    def test_row_of_the_lift_that_went_before_or_of_the_other(self):
        self.assert_heard((1,), (0,), [("go", 7), ("go", 4)], [(1, 1), (2, 2)], 2, ["other", "either"])
        self.assert_heard((0,), (1,), [("go", 7), ("go", 4)], [(1, 1), (2, 2)], 2, ["one", "either"])

    def test_later_rows_tell_whose_an_earlier_one_was(self):
        self.assert_heard((0,), (1,), [("go", 3)], [(0, 0), (1, 1)], 2, ["either"])
        self.assert_heard((0,), (1,), [("go", 3), ("go", 7)], [(0, 2), (2, 0)], 2, ["other", "either"])
        self.assert_heard((0,), (1,), [("go", 3), ("bell", True), ("bell", True)], [(1, 1)], 4,
                          ["one", "either", "either"])

    def test_row_that_fits_none(self):
        self.assert_not_heard((0,), (1, 2), [("go", 5)])
        self.assert_not_heard((0, 2), (0, 2), [DOOR, ("bell", True)])
        self.assert_not_heard((0,), (0,), [DOOR, ("go", 3), ("look", (2,))])

    def test_from_the_same_floors(self):
        self.assert_heard((1,), (1,), [("go", 4)], [(1, 2), (2, 1)], 2, ["either"])
        self.assert_heard((0, 1), (0, 1), [("go", 4)], [(0, 2), (1, 2), (2, 0), (2, 1)], 4, ["either"])

    def test_from_different_floors(self):
        self.assert_heard((0, 1), (2,), [("go", 3)], [(0, 2), (1, 2)], 2, ["one"])
        self.assert_heard((0, 1), (2,), [("go", 4)], [(0, 1), (1, 1), (2, 2)], 3, ["either"])

    def test_empty_log(self):
        self.assert_heard((0, 2), (1, 2), [], [(0, 1), (0, 2), (2, 1), (2, 2)], 4, [])
        self.assert_heard((1,), (0,), [], [(1, 0)], 1, [])

    def test_empty_beginning(self):
        for log in ([], [DOOR], [GAP, ("go", 3)]):
            self.assert_not_heard((), (0, 1), log)
            self.assert_not_heard((0, 1), (), log)
            self.assert_not_heard((), (), log)

    def test_gap(self):
        # Three ways of each lift; the pair where nothing changes is in two of them.
        self.assert_heard((0,), (2,), [GAP], [(0, 0), (0, 1), (0, 2), (1, 2), (2, 2)], 6, ["either"])
        self.assert_heard((0,), (2,), [GAP, GAP], [(here, there) for here in range(3) for there in range(3)], 36,
                          ["either"] * 2)

    def test_look(self):
        self.assert_heard((0,), (2,), [("look", (0,))], [(0, 2)], 1, ["one"])
        self.assert_heard((0,), (2,), [("look", (1, 2))], [(0, 2)], 1, ["other"])
        self.assert_heard((0,), (2,), [("look", (0, 2))], [(0, 2)], 2, ["either"])
        self.assert_not_heard((0,), (2,), [("look", (1,))])

    def test_bell(self):
        self.assert_heard((1,), (0,), [("bell", True)], [(1, 0)], 1, ["one"])
        self.assert_heard((1,), (0,), [("bell", False)], [(1, 0)], 1, ["other"])
        self.assert_heard((1,), (0,), [("bell", True), ("bell", False)], [(1, 0)], 1, ["one", "other"])

    def test_doors(self):
        self.assert_heard((0,), (0,), [DOOR], [(0, 0)], 2, ["either"])
        self.assert_heard((0,), (1,), [DOOR] * 5, [(0, 1)], 32, ["either"] * 5)

    def test_number_by_hand(self):
        # Row 0 leads to (1, 2) alone; then "go" 3 to (0, 2), and "go" 4 to (1, 1) or (2, 2); "door" is of either lift.
        self.assert_heard((0,), (2,), [("go", 3), ("go", 3), DOOR], [(0, 2)], 2, ["one", "one", "either"])
        self.assert_heard((0,), (2,), [("go", 3), ("go", 4), DOOR], [(1, 1), (2, 2)], 4, ["one", "either", "either"])
        # (1, 1) is left by either lift to floor 0, (2, 2) by none.
        self.assert_heard((0,), (2,), [("go", 3), ("go", 4), ("go", 3)], [(0, 1), (1, 0)], 2,
                          ["one", "other", "either"])

    def test_many_ways(self):
        self.assertEqual(two_ways(HOUSE, (0,), (1,), [DOOR] * 100), 2 ** 100)
        self.assertEqual(two_ways(HOUSE, (0,), (1,), [GAP] * 100), 6 ** 100)
        self.assertEqual(whose_row(HOUSE, (0,), (1,), [GAP] * 100, 50), "either")


class TestErrors(PairCase):

    def test_indexes(self):
        asked = (((0,), (2,), [DOOR]), ((0,), (2,), []), ((), (2,), [DOOR, DOOR]), ((0,), (0,), [("go", 5)]))
        for one, other, log in asked:
            for index in (-1, len(log), 10 ** 20):
                with self.assertRaises(InvalidNumber):
                    whose_row(HOUSE, one, other, log, index)

    def asked_all(self, one, other, log):
        return (lambda: two_floors(HOUSE, one, other, log), lambda: two_ways(HOUSE, one, other, log),
                lambda: whose_row(HOUSE, one, other, log, 99))

    def test_floors_of_each_beginning(self):
        for one, other in (((3,), (0,)), ((0,), (3,)), ((-1, 0), ()), ((), (0, 3)), ((3,), (3,))):
            for log in ([], [DOOR], [("go", 0)]):
                for ask in self.asked_all(one, other, log):
                    with self.assertRaises(UnknownFloor):
                        ask()

    def test_then_the_log(self):
        for log, index in (([("go", 82)], 0), ([("go", 5), ("look", (0, 3)), ("go", 0)], 1)):
            for one in ((0,), ()):
                for ask in self.asked_all(one, (0, 1), log):
                    with self.assertRaises(InvalidLog) as caught:
                        ask()
                    self.assertEqual(caught.exception.index, index)


class TestArguments(PairCase):

    def test_unchanged_and_new(self):
        log = [("go", 3), ("go", 4), DOOR]
        for _ in range(2):
            floors = two_floors(HOUSE, (0,), (2,), log)
            self.assertEqual([floors, two_ways(HOUSE, (0,), (2,), log)], [[(1, 1), (2, 2)], 4])
            self.assertEqual(whose_row(HOUSE, (0,), (2,), log, 0), "one")
            self.assertEqual(log, [("go", 3), ("go", 4), DOOR])
            floors.clear()


if __name__ == "__main__":
    unittest.main()

"""Point 7: the houses in which a log can have been heard."""

import unittest

from liftheard.errors import InvalidHouse, InvalidLog, InvalidNumber, TooMany, UnknownFloor
from liftheard.houses import House
from liftheard.pools import houses_left, possible_gaps

SMALL = House((3,), (1,))
MIDDLE = House((2, 3), (2,))
LARGE = House((3, 2, 4), (1, 3))


class TestExamples(unittest.TestCase):

    def test_values(self):
        pool = (House((3, 2), ()), House((2, 3), ()))
        found = [houses_left(pool, (0,), [("go", 2)]), possible_gaps((), 3, 3, (0,), [("go", 2), ("go", 3)])]
        self.assertEqual(found, [[1], [(2, 3)]])


class TestHousesLeft(unittest.TestCase):

    def test_no_houses(self):
        self.assertEqual(houses_left((), (0,), [("go", 3)]), [])
        self.assertEqual(houses_left((), (99,), [("go", 99)]), [])

    def test_different_numbers_of_floors(self):
        pool = (SMALL, MIDDLE, LARGE, SMALL)
        self.assertEqual(houses_left(pool, (0,), [("go", 3)]), [0, 2, 3])
        self.assertEqual(houses_left(pool, (0, 1), [("go", 3), ("bell", True)]), [0, 1, 2, 3])
        self.assertEqual(houses_left(pool, (0,), [("go", 5)]), [1, 2])
        self.assertEqual(houses_left(pool, (0,), [("go", 7)]), [])

    def test_empty_start_and_empty_log(self):
        self.assertEqual(houses_left((SMALL, LARGE), (1,), []), [0, 1])
        self.assertEqual(houses_left((SMALL, LARGE), (), []), [])
        self.assertEqual(houses_left((SMALL, LARGE), (), [("gap",)]), [])

    def test_twelve(self):
        self.assertEqual(houses_left((MIDDLE, SMALL) * 6, (0,), [("go", 3)]), [1, 3, 5, 7, 9, 11])

    def test_thirteen(self):
        with self.assertRaises(TooMany):
            houses_left((SMALL,) * 13, (0,), [("go", 3)])

    def test_too_many_first(self):
        with self.assertRaises(TooMany):
            houses_left((SMALL,) * 13, (9,), [("go", 0)])

    def test_errors_of_the_first_house(self):
        with self.assertRaises(UnknownFloor):
            houses_left((SMALL, LARGE), (0, 2), [])
        with self.assertRaises(InvalidLog) as caught:
            houses_left((SMALL, LARGE), (0,), [("door",), ("look", (2,))])
        self.assertEqual(caught.exception.index, 1)

    def test_errors_of_a_later_house(self):
        with self.assertRaises(UnknownFloor):
            houses_left((LARGE, MIDDLE, SMALL), (0, 2), [("go", 7)])
        with self.assertRaises(InvalidLog) as caught:
            houses_left((LARGE, SMALL), (1,), [("go", 9), ("go", 3), ("look", (2,))])
        self.assertEqual(caught.exception.index, 2)

    def test_house_by_house(self):
        with self.assertRaises(InvalidLog) as caught:
            houses_left((MIDDLE, SMALL), (2,), [("look", (3,))])
        self.assertEqual(caught.exception.index, 0)
        with self.assertRaises(UnknownFloor):
            houses_left((SMALL, MIDDLE), (2,), [("look", (3,))])


class TestPossibleGaps(unittest.TestCase):

    def assert_house_wrong(self, index, *arguments):
        with self.assertRaises(InvalidHouse) as caught:
            possible_gaps(*arguments)
        self.assertEqual((caught.exception.part, caught.exception.index), ("bells", index))

    def test_several_ascending(self):
        self.assertEqual(possible_gaps((), 3, 3, (0,), [("go", 3)]), [(1, 2), (2, 1), (3, 1), (3, 2), (3, 3)])

    def test_none(self):
        self.assertEqual(possible_gaps((), 3, 3, (0,), [("go", 7)]), [])
        self.assertEqual(possible_gaps((), 2, 4, (), []), [])

    def test_bells(self):
        log = [("go", 2), ("bell", True)]
        self.assertEqual(possible_gaps((1,), 3, 2, (0,), log), [(2, 1), (2, 2)])
        self.assertEqual(possible_gaps((2,), 3, 2, (0,), log), [(1, 1)])
        self.assertEqual(possible_gaps((), 3, 2, (0,), log), [])

    def test_most(self):
        self.assertEqual(possible_gaps((), 2, 1, (0,), []), [(1,)])
        self.assertEqual(possible_gaps((), 2, 4, (0,), []), [(1,), (2,), (3,), (4,)])
        for most in (0, 5, -1, 10 ** 9):
            with self.subTest(most=most), self.assertRaises(InvalidNumber):
                possible_gaps((), 2, most, (0,), [])

    def test_count(self):
        self.assertEqual(possible_gaps((), 2, 2, (0,), [("go", 2)]), [(2,)])
        five = possible_gaps((), 5, 4, (0,), [])
        self.assertEqual((len(five), five[0], five[1], five[-1]), (256, (1, 1, 1, 1), (1, 1, 1, 2), (4, 4, 4, 4)))
        self.assertEqual(five, sorted(five))
        self.assertEqual(possible_gaps((4,), 5, 4, (0,), [("go", 16), ("bell", True)]), [(4, 4, 4, 4)])
        for count in (1, 6, 0, -1, 10 ** 9):
            with self.subTest(count=count), self.assertRaises(InvalidNumber):
                possible_gaps((), count, 2, (0,), [])

    def test_wrong_bells(self):
        self.assert_house_wrong(0, (3,), 3, 2, (0,), [])
        self.assert_house_wrong(1, (1, 1), 3, 2, (0,), [])
        self.assert_house_wrong(2, (0, 2, 1), 3, 2, (0,), [])

    def test_invalid_number_first(self):
        for count, most in ((6, 2), (3, 5), (1, 0)):
            with self.subTest(count=count, most=most), self.assertRaises(InvalidNumber):
                possible_gaps((9,), count, most, (9,), [("go", 0)])

    def test_then_invalid_house(self):
        self.assert_house_wrong(0, (9,), 3, 2, (9,), [("go", 0)])

    def test_then_the_errors_of_point_4(self):
        with self.assertRaises(UnknownFloor):
            possible_gaps((), 3, 2, (3,), [("go", 0)])
        with self.assertRaises(InvalidLog) as caught:
            possible_gaps((), 3, 2, (2,), [("go", 9), ("look", (3,))])
        self.assertEqual(caught.exception.index, 1)


class TestArguments(unittest.TestCase):

    def test_arguments_are_unchanged_and_lists_are_new(self):
        pool, log = (SMALL, LARGE), [("gap",), ("go", 3)]
        for _ in range(2):
            left = houses_left(pool, (0,), log)
            gaps = possible_gaps((1,), 2, 4, (0,), log)
            self.assertEqual((left, gaps), ([0, 1], [(3,)]))
            left.clear()
            gaps.clear()
        self.assertEqual((pool, log), ((SMALL, LARGE), [("gap",), ("go", 3)]))


if __name__ == "__main__":
    unittest.main()

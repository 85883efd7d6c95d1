"""Point 2, and what point 1 says of it: houses."""

import unittest

from liftheard.errors import InvalidHouse, LiftError, UnknownFloor
from liftheard.houses import House


class HouseCase(unittest.TestCase):

    def assert_invalid(self, gaps, bells, part, index):
        with self.assertRaises(InvalidHouse) as caught:
            House(gaps, bells)
        self.assertEqual((caught.exception.part, caught.exception.index), (part, index))


class TestExamples(HouseCase):

    def test_values(self):
        house = House((3, 2, 4), (1, 3))
        found = [house.floors, house.seconds(0, 3), house.turned().gaps, house.turned().bells]
        self.assertEqual(found, [(0, 1, 2, 3), 9, (4, 2, 3), (0, 2)])

    def test_error(self):
        self.assert_invalid((3, 0), (), "gaps", 1)


class TestProperties(HouseCase):

    def test_one_gap(self):
        house = House((9,), (0, 1))
        self.assertEqual((house.gaps, house.bells, house.floors, len(house)), ((9,), (0, 1), (0, 1), 2))

    def test_nine_gaps(self):
        gaps = (1, 2, 3, 4, 5, 6, 7, 8, 9)
        house = House(gaps, (0, 9))
        self.assertEqual((house.gaps, house.bells, len(house)), (gaps, (0, 9), 10))
        self.assertEqual(house.floors, (0, 1, 2, 3, 4, 5, 6, 7, 8, 9))

    def test_no_bells_and_all_bells(self):
        self.assertEqual(House((1, 1), ()).bells, ())
        self.assertEqual(House((1, 1), (0, 1, 2)).bells, (0, 1, 2))

    def test_cannot_be_assigned(self):
        for name in ("gaps", "bells", "floors"):
            with self.subTest(name=name), self.assertRaises(AttributeError):
                setattr(House((1,), ()), name, (2,))


class TestWrongGaps(HouseCase):

    def test_none(self):
        self.assert_invalid((), (), "gaps", 0)

    def test_ten_and_more(self):
        self.assert_invalid((1,) * 10, (), "gaps", 9)
        self.assert_invalid((1,) * 12, (), "gaps", 9)

    def test_out_of_range(self):
        for gap in (0, 10, -1, 10 ** 30):
            with self.subTest(gap=gap):
                self.assert_invalid((gap, 1, 1), (), "gaps", 0)
                self.assert_invalid((9, 1, gap), (), "gaps", 2)

    def test_first_of_several(self):
        self.assert_invalid((1, 10, 0, -4), (), "gaps", 1)

    def test_out_of_range_ahead_of_the_tenth(self):
        self.assert_invalid((1,) * 8 + (0, 1, 1), (), "gaps", 8)

    def test_the_tenth_ahead_of_one_behind_it(self):
        self.assert_invalid((1,) * 9 + (0, 0), (), "gaps", 9)
        self.assert_invalid((1,) * 10 + (0,), (), "gaps", 9)


class TestWrongBells(HouseCase):

    def test_no_floor(self):
        self.assert_invalid((1, 1), (3,), "bells", 0)
        self.assert_invalid((1, 1), (-1, 0), "bells", 0)
        self.assert_invalid((1, 1), (0, 2, 3), "bells", 2)

    def test_equal(self):
        self.assert_invalid((1, 1), (0, 0), "bells", 1)
        self.assert_invalid((1, 1, 1), (0, 2, 2), "bells", 2)

    def test_descending(self):
        self.assert_invalid((1, 1), (1, 0), "bells", 1)
        self.assert_invalid((1, 1, 1), (0, 3, 1, 2), "bells", 2)

    def test_first_of_several(self):
        self.assert_invalid((1, 1), (1, 1, 9, 0), "bells", 1)
        self.assert_invalid((1, 1), (5, 1, 0), "bells", 0)

    def test_gaps_ahead_of_bells(self):
        self.assert_invalid((1, 0), (7,), "gaps", 1)
        self.assert_invalid((), (7,), "gaps", 0)
        self.assert_invalid((1,) * 10, (3, 3), "gaps", 9)

    def test_is_an_error_of_the_package(self):
        with self.assertRaises(LiftError):
            House((), ())


class TestSeconds(HouseCase):

    def setUp(self):
        self.house = House((3, 2, 4), (1, 3))

    def test_up_and_down(self):
        expected = [[0, 3, 5, 9], [3, 0, 2, 6], [5, 2, 0, 4], [9, 6, 4, 0]]
        found = [[self.house.seconds(one, other) for other in range(4)] for one in range(4)]
        self.assertEqual(found, expected)

    def test_longest(self):
        self.assertEqual(House((9,) * 9, ()).seconds(9, 0), 81)

    def test_unknown_floors(self):
        for one, other in ((4, 0), (0, 4), (-1, 0), (0, -1), (4, 4), (-1, 4)):
            with self.subTest(one=one, other=other), self.assertRaises(UnknownFloor):
                self.house.seconds(one, other)

    def test_asked_twice(self):
        self.assertEqual(self.house.seconds(0, 2), self.house.seconds(0, 2))


class TestTurned(HouseCase):

    def test_gaps_and_bells(self):
        turned = House((1, 2, 3, 4), (0, 1, 3)).turned()
        self.assertEqual((turned.gaps, turned.bells, len(turned)), ((4, 3, 2, 1), (1, 3, 4), 5))

    def test_without_bells(self):
        self.assertEqual(House((1, 2), ()).turned(), House((2, 1), ()))

    def test_twice(self):
        house = House((3, 2, 4), (1, 3))
        self.assertEqual(house.turned().turned(), house)

    def test_changes_nothing(self):
        house = House((3, 2, 4), (1, 3))
        house.turned()
        self.assertEqual((house.gaps, house.bells, house.floors), ((3, 2, 4), (1, 3), (0, 1, 2, 3)))
        self.assertEqual(house.turned(), house.turned())


class TestEquality(HouseCase):

    def test_equal(self):
        self.assertTrue(House((3, 2), (1,)) == House((3, 2), (1,)))
        self.assertFalse(House((3, 2), (1,)) != House((3, 2), (1,)))

    def test_other_gaps_or_bells(self):
        house = House((3, 2), (1,))
        for other in (House((2, 3), (1,)), House((3, 2), (2,)), House((3, 2), ()), House((3, 2, 1), (1,))):
            self.assertFalse(house == other)
            self.assertTrue(house != other)

    def test_what_is_no_house(self):
        house = House((3, 2), (1,))
        for other in (None, 3, "house", ((3, 2), (1,)), [house]):
            self.assertFalse(house == other)
            self.assertFalse(other == house)
            self.assertTrue(house != other)


if __name__ == "__main__":
    unittest.main()

"""Point 28: a house and a log as a list of integers with a checksum."""

import itertools
import unittest

from liftheard.codec import decode_log, encode_log
from liftheard.errors import DecodeError, InvalidHouse, InvalidLog
from liftheard.houses import House

SMALL = House((3, 4), (1,))
TEN = House((9,) * 9, tuple(range(10)))
LOG = [("go", 7), ("bell", True), ("bell", False), ("door",), ("look", (0, 2)), ("look", (1,)), ("gap",), ("go", 81)]


def with_sum(*values):
    """A list of items, and their checksum."""
    rest = 6
    for item in values:
        rest = (13 * rest + item) % 239
    return [*values, rest]


class CodecCase(unittest.TestCase):

    def assert_wrong(self, values, offset):
        with self.assertRaises(DecodeError, msg=str(values)) as caught:
            decode_log(values)
        self.assertEqual(caught.exception.offset, offset, values)


class TestExamples(CodecCase):

    def test_values(self):
        values = encode_log(SMALL, [("go", 7), ("bell", True), ("door",)])
        self.assertEqual(values, [76, 2, 3, 4, 1, 1, 3, 0, 7, 1, 3, 70])
        self.assertEqual(decode_log(values)[0], SMALL)

    def test_error(self):
        self.assert_wrong([76, 0], 1)


class TestEncode(CodecCase):

    def test_each_kind_of_row(self):
        for row, items in ((("go", 1), [0, 1]), (("go", 81), [0, 81]), (("bell", True), [1]), (("bell", False), [2]),
                           (("door",), [3]), (("look", (0, 1, 2)), [4, 3, 0, 1, 2]), (("look", (2,)), [4, 1, 2]),
                           (("gap",), [5])):
            self.assertEqual(encode_log(SMALL, [row]), with_sum(76, 2, 3, 4, 1, 1, 1, *items))
            self.assertEqual(encode_log(SMALL, [row, row]), with_sum(76, 2, 3, 4, 1, 1, 2, *items, *items))

    def test_no_rows(self):
        self.assertEqual(encode_log(SMALL, []), with_sum(76, 2, 3, 4, 1, 1, 0))

    def test_no_bells(self):
        self.assertEqual(encode_log(House((9,), ()), []), with_sum(76, 1, 9, 0, 0))

    def test_ten_floors(self):
        self.assertEqual(encode_log(TEN, [("look", TEN.floors)]),
                         with_sum(76, 9, *[9] * 9, 10, *range(10), 1, 4, 10, *range(10)))

    def test_checksum(self):
        # Worked out by hand: 6 at first, then 154, 91, 236, 200 and 210.
        self.assertEqual(encode_log(House((9,), ()), []), [76, 1, 9, 0, 0, 210])

    def test_two_hundred_rows(self):
        self.assertEqual(encode_log(SMALL, [("gap",)] * 200), with_sum(76, 2, 3, 4, 1, 1, 200, *[5] * 200))

    def assert_invalid(self, log, index):
        with self.assertRaises(InvalidLog) as caught:
            encode_log(SMALL, log)
        self.assertEqual(caught.exception.index, index)

    def test_a_row_too_many(self):
        for number in (201, 202, 300):
            self.assert_invalid([("gap",)] * number, 200)

    def test_rows_that_cannot_be(self):
        for row in (("go", 0), ("go", 82), ("go", -1), ("look", (3,)), ("look", (0, -1)), ("look", ())):
            for count in range(3):
                self.assert_invalid([("gap",)] * count + [row, ("go", 0)], count)
            for index in (0, 7, 199, 200):
                log = [("gap",)] * 201
                log[index] = row
                self.assert_invalid(log, index)
            self.assert_invalid([("gap",)] * 201 + [row], 200)


class TestDecode(CodecCase):

    def test_what_was_encoded(self):
        logs = ([], LOG, *[[row] for row in LOG], LOG * 25, [("gap",)] * 200)
        for house, log in itertools.product((SMALL, TEN, House((1, 1), ()), House((9, 1, 5), (0, 3))), logs):
            values = encode_log(house, log)
            self.assertTrue(all(type(item) is int and 0 <= item <= 255 for item in values))
            found = decode_log(values)
            self.assertIs(type(found), tuple)
            self.assertEqual(found, (house, log))
            self.assertIs(type(found[1]), list)

    def test_kinds_of_values(self):
        house, log = decode_log(encode_log(SMALL, LOG))
        self.assertEqual((house.gaps, house.bells), ((3, 4), (1,)))
        self.assertEqual([type(row) for row in log], [tuple] * len(log))
        self.assertIs(log[1][1], True)
        self.assertIs(log[2][1], False)

    def test_each_checksum(self):
        # Logs of one row "go" have many checksums, 0 and 238 among them.
        houses = [House((gap, other), ()) for gap in range(1, 10) for other in range(1, 10)]
        found = set()
        for house, seconds in itertools.product(houses, range(1, 82)):
            values = encode_log(house, [("go", seconds)])
            self.assertEqual(decode_log(values), (house, [("go", seconds)]))
            found.add(values[-1])
        self.assertEqual(found, set(range(239)))


class TestRanges(CodecCase):

    # Each item of this list with its range, one below another where they have one of their own.
    VALUES = with_sum(76, 3, 3, 4, 5, 2, 1, 3, 8, 0, 7, 1, 2, 3, 4, 2, 0, 2, 5, 0, 81, 4, 1, 0)
    RANGES = (
        (76, 76), (1, 9), (1, 9), (1, 9), (1, 9), (0, 10), (0, 9), (2, 9), (0, 200), (0, 5), (1, 81), (0, 5), (0, 5),
        (0, 5), (0, 5), (1, 10), (0, 9), (1, 9), (0, 5), (0, 5), (1, 81), (0, 5), (1, 10), (0, 9), (VALUES[-1],) * 2,
    )

    def test_the_list_itself(self):
        self.assertEqual(len(self.VALUES), len(self.RANGES))
        house, log = decode_log(self.VALUES)
        self.assertEqual((house.gaps, house.bells, len(log)), ((3, 4, 5), (1, 3), 8))

    def test_one_below_and_one_above(self):
        for offset, (least, most) in enumerate(self.RANGES):
            for item in (least - 1, most + 1, -1, 256, 1000, -(10 ** 30)):
                if not least <= item <= most:
                    values = list(self.VALUES)
                    values[offset] = item
                    self.assert_wrong(values, offset)
                    self.assert_wrong(values[:offset + 1], offset)
                    self.assert_wrong(with_sum(*values[:-1]) if offset < len(values) - 1 else values, offset)

    def test_ends_of_the_ranges(self):
        for gap in (1, 9):
            for seconds in (1, 81):
                house = House((gap,), ())
                self.assertEqual(decode_log(with_sum(76, 1, gap, 0, 1, 0, seconds)), (house, [("go", seconds)]))

    def test_no_integers(self):
        for offset in range(len(self.VALUES)):
            for item in (True, False, None, "3", "", 3.0, 1.5, (), [3], {}):
                values = list(self.VALUES)
                values[offset] = item
                self.assert_wrong(values, offset)

    def test_booleans_where_their_numbers_would_do(self):
        for offset in range(len(self.VALUES)):
            for item in (True, False):
                if self.VALUES[offset] == item:
                    values = list(self.VALUES)
                    values[offset] = item
                    self.assert_wrong(values, offset)
        # A checksum of 1, and one of 0.
        for gap, other, seconds in itertools.product(range(1, 10), range(1, 10), range(1, 82)):
            values = with_sum(76, 2, gap, other, 0, 1, 0, seconds)
            if values[-1] in (0, 1):
                self.assert_wrong([*values[:-1], bool(values[-1])], 8)

    def test_missing_items(self):
        for length in range(len(self.VALUES)):
            self.assert_wrong(self.VALUES[:length], length)

    def test_an_item_left_out_in_the_middle(self):
        self.assert_wrong([76, 3, 4, 5, 2, 1, 3], 7)
        self.assert_wrong([], 0)

    def test_items_after_the_checksum(self):
        for more in ([0], [5], [self.VALUES[-1]], [None], [1, 2, 3]):
            self.assert_wrong(self.VALUES + more, len(self.VALUES))

    def test_wrong_checksums(self):
        last = len(self.VALUES) - 1
        for item in range(256):
            if item != self.VALUES[-1]:
                self.assert_wrong([*self.VALUES[:-1], item], last)
                self.assert_wrong([*self.VALUES[:-1], item, 0], last)
                self.assert_wrong([*self.VALUES[:-1], item, self.VALUES[-1]], last)

    def test_other_items_in_their_ranges(self):
        # The checksum tells each item that is changed, but leaves the form as it is.
        for offset in (2, 3, 4, 7, 10, 16, 17, 20, 23):
            least, most = self.RANGES[offset]
            for item in range(least, min(most, 9) + 1):
                values = list(self.VALUES)
                if item != values[offset] and (offset != 16 or item < 2) and (offset != 7 or item < 4):
                    values[offset] = item
                    self.assert_wrong(values, len(values) - 1)

    def test_the_first_of_several(self):
        self.assert_wrong([75, 0, 0], 0)
        self.assert_wrong([76, 1, 0, 11], 2)
        self.assert_wrong([76, 1, 1, 11, 201], 3)
        self.assert_wrong([76, 1, 1, 0, 1, 6], 5)


class TestAscending(CodecCase):

    def test_bells(self):
        self.assert_wrong(with_sum(76, 1, 3, 2, 1, 1, 0), 5)
        self.assert_wrong(with_sum(76, 1, 3, 2, 1, 0, 0), 5)
        self.assert_wrong(with_sum(76, 3, 3, 3, 3, 3, 0, 2, 1, 0), 8)
        self.assert_wrong(with_sum(76, 3, 3, 3, 3, 3, 9, 9, 9, 0), 7)
        self.assert_wrong([76, 1, 3, 2, 9], 5)

    def test_rows(self):
        self.assert_wrong(with_sum(76, 2, 3, 4, 0, 1, 4, 2, 1, 1), 9)
        self.assert_wrong(with_sum(76, 2, 3, 4, 0, 1, 4, 3, 0, 2, 1), 10)
        self.assert_wrong(with_sum(76, 2, 3, 4, 0, 2, 4, 1, 2, 4, 3, 0, 2, 1), 13)
        # Each row begins anew.
        self.assertEqual(decode_log(with_sum(76, 2, 3, 4, 0, 2, 4, 1, 2, 4, 1, 0))[1], [("look", (2,)), ("look", (0,))])

    def test_no_floors(self):
        self.assert_wrong(with_sum(76, 2, 3, 4, 0, 1, 4, 0), 7)


class TestHousesAndLogs(CodecCase):

    def test_houses(self):
        for bells, index in (((2,), 0), ((0, 1, 2), 2), ((1, 9), 1)):
            values = with_sum(76, 1, 3, len(bells), *bells, 1, 4, 1, 9)
            with self.assertRaises(InvalidHouse) as caught:
                decode_log(values)
            self.assertEqual((caught.exception.part, caught.exception.index), ("bells", index))
            # All that is of DecodeError comes first.
            self.assert_wrong([*values, 0], len(values))
            self.assert_wrong([*values[:-1], 239], len(values) - 1)
            self.assert_wrong(values[:-1], len(values) - 1)

    def test_logs(self):
        for floors, count in itertools.product(((2,), (0, 1, 9)), range(3)):
            values = with_sum(76, 1, 3, 1, 0, count + 2, *[5] * count, 4, len(floors), *floors, 4, 1, 8)
            with self.assertRaises(InvalidLog) as caught:
                decode_log(values)
            self.assertEqual(caught.exception.index, count)
            self.assert_wrong([*values, 0], len(values))
            self.assert_wrong([*values[:-1], 239], len(values) - 1)
            self.assert_wrong(values[:-1], len(values) - 1)


class TestArguments(CodecCase):

    def test_unchanged_and_lists_new(self):
        log = list(LOG)
        values = encode_log(SMALL, log)
        copy = list(values)
        for _ in range(2):
            found = encode_log(SMALL, log)
            self.assertEqual((found, log), (values, LOG))
            found.clear()
            told = decode_log(values)[1]
            self.assertEqual((told, values), (LOG, copy))
            told.clear()


if __name__ == "__main__":
    unittest.main()

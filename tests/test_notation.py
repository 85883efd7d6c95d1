"""Point 26: the text of a house and of a log."""

import itertools
import unittest

from liftheard.errors import InvalidHouse, InvalidLog, InvalidText
from liftheard.houses import House
from liftheard.notation import format_log, parse_log

SMALL = House((3, 4), (1,))
TEN = House((1, 9, 1, 9, 1, 9, 1, 9, 1), tuple(range(10)))
LOG = [("go", 7), ("bell", True), ("bell", False), ("door",), ("look", (0, 2)), ("look", (1,)), ("gap",), ("go", 81)]
TEXT = "gaps 3 4\nbells 1\ngo 7\nbell yes\nbell no\ndoor\nlook 0 2\nlook 1\ngap\ngo 81"
HEAD = "gaps 3 4\nbells 1\n"


class NotationCase(unittest.TestCase):

    def assert_wrong(self, text, row, word):
        with self.assertRaises(InvalidText, msg=text) as caught:
            parse_log(text)
        self.assertEqual((caught.exception.row, caught.exception.word), (row, word), text)

    def assert_row(self, row, word):
        """Whether the first wrong word of a row is told, wherever the row stands in a log."""
        self.assert_wrong(HEAD + row, 2, word)
        self.assert_wrong(HEAD + "door\ngo 3\n" + row, 4, word)
        self.assert_wrong(HEAD + row + "\ndoor 1\nx", 2, word)


class TestExamples(NotationCase):

    def test_values(self):
        text = format_log(SMALL, [("go", 7), ("bell", True), ("look", (0, 1)), ("gap",)])
        self.assertEqual(text, "gaps 3 4\nbells 1\ngo 7\nbell yes\nlook 0 1\ngap")
        self.assertEqual(parse_log(text)[1], [("go", 7), ("bell", True), ("look", (0, 1)), ("gap",)])

    def test_error(self):
        self.assert_wrong("gaps 3 4\nbells\nlook 1 1", 2, 2)


class TestFormat(NotationCase):

    def test_each_kind_of_row(self):
        self.assertEqual(format_log(SMALL, LOG), TEXT)
        for row, text in zip(LOG, TEXT.split("\n")[2:]):
            self.assertEqual(format_log(SMALL, [row]), HEAD + text)

    def test_no_rows(self):
        self.assertEqual(format_log(SMALL, []), "gaps 3 4\nbells 1")

    def test_no_bells(self):
        self.assertEqual(format_log(House((9,), ()), [("door",)]), "gaps 9\nbells\ndoor")

    def test_ten_floors(self):
        self.assertEqual(format_log(TEN, [("look", TEN.floors)]),
                         "gaps 1 9 1 9 1 9 1 9 1\nbells 0 1 2 3 4 5 6 7 8 9\nlook 0 1 2 3 4 5 6 7 8 9")

    def test_floors_are_written_as_they_stand(self):
        self.assertEqual(format_log(SMALL, [("look", (2, 0)), ("look", ())]), HEAD + "look 2 0\nlook")

    def test_logs_that_cannot_be(self):
        for row, count in itertools.product((("go", 0), ("go", 82), ("look", (3,)), ("look", (0, -1))), range(3)):
            with self.assertRaises(InvalidLog) as caught:
                format_log(SMALL, [("gap",)] * count + [row, ("go", -1)])
            self.assertEqual(caught.exception.index, count)


class TestParse(NotationCase):

    def test_what_was_formatted(self):
        logs = ([], LOG, *[[row] for row in LOG], LOG * 30)
        for house, log in itertools.product((SMALL, TEN, House((1, 1), ()), House((9, 9, 9), (0, 3))), logs):
            found = parse_log(format_log(house, log))
            self.assertIs(type(found), tuple)
            self.assertEqual(found, (house, log))
            self.assertIs(type(found[1]), list)

    def test_kinds_of_values(self):
        house, log = parse_log(TEXT)
        self.assertEqual((house.gaps, house.bells), ((3, 4), (1,)))
        self.assertEqual([type(row) for row in log], [tuple] * len(log))
        self.assertIs(log[1][1], True)
        self.assertIs(log[2][1], False)
        self.assertEqual(log[4][1], (0, 2))

    def test_ways_are_not_asked_for(self):
        self.assertEqual(parse_log(HEAD + "go 80\nbell yes\nbell no")[1], [("go", 80), ("bell", True), ("bell", False)])


class TestFirstRows(NotationCase):

    def test_without_signs(self):
        self.assert_wrong("", 0, 0)

    def test_one_row(self):
        self.assert_wrong("gaps 3 4", 1, 0)
        self.assert_wrong("gaps", 0, 1)
        self.assert_wrong("bells 1", 0, 0)

    def test_two_rows(self):
        self.assertEqual(parse_log("gaps 3 4\nbells"), (House((3, 4), ()), []))
        self.assert_wrong("bells 1\ngaps 3 4", 0, 0)

    def test_first_words(self):
        words = ("", "gaps", "bells", "start", "go", "bell", "door", "look", "gap", "told", "undo", "floors", "x", "7",
                 "Gaps", "bell:", "\tgo", "gaps\r")
        for word in words:
            if word != "gaps":
                self.assert_wrong(f"{word} 3 4\nbells 1\ndoor", 0, 0)
            if word != "bells":
                self.assert_wrong(f"gaps 3 4\n{word} 1\ndoor", 1, 0)
            if word not in ("go", "bell", "door", "look", "gap"):
                self.assert_wrong(f"{HEAD}{word} 1", 2, 0)
                self.assert_wrong(f"{HEAD}door\n{word}", 3, 0)

    def test_gaps(self):
        self.assert_wrong("gaps\nbells 1", 0, 1)
        self.assert_wrong("gaps x\nbells 1", 0, 1)
        self.assert_wrong("gaps 3 x 4\nbells 1", 0, 2)
        self.assert_wrong("gaps 3 4 03\nbells 1", 0, 3)
        # They need not ascend.
        self.assertEqual(parse_log("gaps 4 4 3\nbells")[0], House((4, 4, 3), ()))

    def test_bells(self):
        self.assert_wrong("gaps 3 4\nbells x", 1, 1)
        self.assert_wrong("gaps 3 4\nbells 0 1 01", 1, 3)
        self.assert_wrong("gaps 3 4\nbells 1 1", 1, 2)
        self.assert_wrong("gaps 3 4\nbells 0 2 1", 1, 3)
        self.assert_wrong("gaps 3 4\nbells 2 0 x", 1, 2)
        self.assert_wrong("gaps 3 4\nbells 9 10 8", 1, 3)


class TestRows(NotationCase):

    def test_missing_words(self):
        for row in ("go", "bell", "look"):
            self.assert_row(row, 1)

    def test_superfluous_words(self):
        for row, word in (("go 3 4", 2), ("go 3 x", 2), ("bell yes no", 2), ("bell no no no", 2), ("door 1", 1),
                          ("door door", 1), ("gap 1 2", 1), ("gap gap", 1)):
            self.assert_row(row, word)

    def test_numbers(self):
        wrong = ("00", "01", "007", "100", "111", "-1", "+1", "x", "1x", "x1", "1.", "0x1", "1_0", "1,2", "",
                 "\u0661", "\u00b2", "\uff11", "1\u0661", "\t1", "1\r", "\u00a01", "yes", "1e1")
        for word in wrong:
            self.assert_row(f"go {word}", 1)
            self.assert_row(f"look {word}", 1)
            self.assert_row(f"look 1 {word}", 2)
            self.assert_wrong(f"gaps 3 {word}\nbells 1\ndoor", 0, 2)
            self.assert_wrong(f"gaps 3 4\nbells 1 {word}\ndoor", 1, 2)

    def test_answers(self):
        for word in ("Yes", "No", "YES", "y", "true", "True", "1", "", "yes,", "\u0443es"):
            self.assert_row(f"bell {word}", 1)

    def test_spaces(self):
        for row, word in ((" go 3", 0), ("go  3", 1), ("go 3 ", 2), ("go ", 1), ("door ", 1), (" door", 0), ("gap ", 1),
                          ("bell yes ", 2), ("bell  yes", 1), ("look 0  1", 2), ("look 0 1 ", 3), ("look ", 1),
                          (" ", 0), ("  ", 0), ("", 0)):
            self.assert_row(row, word)
        self.assert_wrong(" gaps 3\nbells", 0, 0)
        self.assert_wrong("gaps 3 \nbells", 0, 2)
        self.assert_wrong("gaps  3\nbells", 0, 1)
        self.assert_wrong("gaps 3\nbells ", 1, 1)
        self.assert_wrong("gaps 3\nbells  1", 1, 1)

    def test_line_feeds(self):
        self.assert_wrong("gaps 3 4\n", 1, 0)
        self.assert_wrong("gaps 3 4\nbells 1\n", 2, 0)
        self.assert_wrong(TEXT + "\n", 10, 0)
        self.assert_wrong("\n" + TEXT, 0, 0)
        self.assert_wrong("gaps 3 4\n\nbells 1", 1, 0)
        self.assert_wrong(HEAD + "door\n\ndoor", 3, 0)
        self.assert_wrong(HEAD + "door\r\ndoor", 2, 0)

    def test_floors_ascend(self):
        for row, word in (("look 1 1", 2), ("look 1 0", 2), ("look 0 1 2 1", 4), ("look 9 10 9", 3), ("look 10 9", 2)):
            self.assert_row(row, word)

    def test_the_first_of_several(self):
        self.assert_wrong("gaps x\nbells x\nx", 0, 1)
        self.assert_wrong("gaps 3\nbells 1 0 x\nx", 1, 2)
        self.assert_wrong("gaps x", 0, 1)
        self.assert_wrong(HEAD + "door\nlook 1 0 x\ngo", 3, 2)
        self.assert_wrong(HEAD + "go x 1", 2, 1)
        self.assert_wrong(HEAD + "look 0 x 0", 2, 2)


class TestHousesAndLogs(NotationCase):

    def assert_house(self, text, part, index):
        with self.assertRaises(InvalidHouse) as caught:
            parse_log(text)
        self.assertEqual((caught.exception.part, caught.exception.index), (part, index))

    def test_houses(self):
        self.assert_house("gaps 3 0\nbells 1", "gaps", 1)
        self.assert_house("gaps 10\nbells 1", "gaps", 0)
        self.assert_house("gaps 1 1 1 1 1 1 1 1 1 1\nbells", "gaps", 9)
        self.assert_house("gaps 3 4\nbells 3", "bells", 0)
        self.assert_house("gaps 3 4\nbells 0 1 99", "bells", 2)

    def test_words_ahead_of_houses(self):
        self.assert_wrong("gaps 3 0\nbells 1\ndoor\ndoor 1", 3, 1)
        self.assert_wrong("gaps 3 0", 1, 0)
        self.assert_wrong("gaps 3 0\nbells 9 x", 1, 2)
        self.assert_wrong("gaps 3 4\nbells 9\ngo", 2, 1)

    def test_logs(self):
        for row in ("go 0", "go 82", "go 99", "look 3", "look 0 1 2 3", "look 99"):
            for count in range(3):
                with self.assertRaises(InvalidLog) as caught:
                    parse_log(HEAD + "gap\n" * count + row + "\ngo 0")
                self.assertEqual(caught.exception.index, count)

    def test_words_ahead_of_logs(self):
        self.assert_wrong(HEAD + "go 0\ndoor 1", 3, 1)
        self.assert_wrong(HEAD + "look 9\ngo", 3, 1)

    def test_houses_ahead_of_logs(self):
        self.assert_house("gaps 3 0\nbells 1\ngo 0", "gaps", 1)
        self.assert_house("gaps 3 4\nbells 5\nlook 9", "bells", 0)


class TestArguments(NotationCase):

    def test_unchanged_and_lists_new(self):
        log = list(LOG)
        for _ in range(2):
            self.assertEqual(format_log(SMALL, log), TEXT)
            self.assertEqual(log, LOG)
            found = parse_log(TEXT)[1]
            self.assertEqual(found, LOG)
            found.clear()


if __name__ == "__main__":
    unittest.main()

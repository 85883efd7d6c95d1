"""Point 29: daybooks."""

import random
import unittest

from liftheard.daybooks import Daybook
from liftheard.errors import DaybookError, InvalidHouse, LiftError
from liftheard.houses import House
from liftheard.listeners import Listener

SMALL = House((3, 4), (1,))
HEAD = "gaps 3 4\nbells 1\nstart 0 1 2"
TEXT = "gaps 3 4\nbells 1\nstart 0 1 2\ngo 4\nfloors\ntold 1 2\nthen 0\nways\nundo\nways"


def seen(listener):
    then = [listener.floors_then(moment) for moment in range(len(listener.log) + 1)]
    return listener.log, listener.floors, listener.marks, listener.history, then, listener.way_number()


class DaybookCase(unittest.TestCase):

    def assert_results(self, entries, results, head=HEAD):
        self.assertEqual(Daybook("\n".join([head, *entries])).results, "\n".join(results), entries)

    def assert_wrong(self, text, row, word):
        with self.assertRaises(DaybookError, msg=text) as caught:
            Daybook(text)
        self.assertEqual((caught.exception.row, caught.exception.word), (row, word), text)

    def assert_entry(self, entry, word):
        """Whether the first wrong word of an entry is told, wherever the entry stands."""
        self.assert_wrong(f"{HEAD}\n{entry}", 3, word)
        self.assert_wrong(f"{HEAD}\ngap\nways\n{entry}", 5, word)
        self.assert_wrong(f"{HEAD}\n{entry}\ndoor 1\nx", 3, word)
        # Words come ahead of houses, and of entries that raise an error.
        self.assert_wrong(f"gaps 0\nbells 9\nstart 9\ngo 80\n{entry}", 4, word)


class TestExamples(DaybookCase):

    def test_values(self):
        self.assertEqual(Daybook(TEXT).results, "2\n1,2\n1\n1\n1\nyes\n2")
        self.assertEqual(Daybook(TEXT).listener().floors, (1, 2))

    def test_error(self):
        self.assert_wrong("gaps 3 4\nbells 1", 2, 0)


class TestResults(DaybookCase):

    def test_no_entries(self):
        self.assertEqual(Daybook(HEAD).results, "")
        self.assertEqual(seen(Daybook(HEAD).listener()), seen(Listener(SMALL, (0, 1, 2))))

    def test_rows_of_logs(self):
        self.assert_results(["gap", "look 0 1", "bell yes", "door", "go 4", "bell no", "gap"],
                            ["3", "2", "1", "1", "1", "1", "3"])

    def test_floors(self):
        self.assert_results(["floors"], ["0,1,2"])
        self.assert_results(["floors"], ["2"], "gaps 3 4\nbells\nstart 2")
        self.assert_results(["go 4", "floors", "bell yes", "floors"], ["2", "1,2", "1", "1"])

    def test_ways(self):
        self.assert_results(["ways", "gap", "ways", "gap", "ways"], ["3", "3", "9", "3", "27"])

    def test_then(self):
        self.assert_results(["then 0", "go 4", "then 0", "then 1", "bell yes", "then 0", "then 1", "then 2"],
                            ["0,1,2", "2", "1,2", "1,2", "1", "2", "1", "1"])

    def test_told(self):
        self.assert_results(["told 0 0 2", "gap", "told 1 1", "told 0 0 1", "floors", "then 0"],
                            ["2", "3", "2", "1", "1", "0"])
        # The moment is no floor: the floors behind it may be lower.
        self.assert_results(["gap", "gap", "told 2 0 1", "floors"], ["3", "3", "18", "0,1"])

    def test_undo(self):
        self.assert_results(["undo", "gap", "undo", "undo", "ways"], ["no", "3", "yes", "no", "3"])
        self.assert_results(["told 0 1", "go 4", "floors", "undo", "undo", "ways", "undo"],
                            ["1", "1", "2", "yes", "yes", "3", "no"])

    def test_undo_leaves_questions_alone(self):
        self.assert_results(["gap", "floors", "ways", "then 0", "undo", "undo"],
                            ["3", "0,1,2", "9", "0,1,2", "yes", "no"])

    def test_ten_floors_and_long_moments(self):
        head = "gaps 1 1 1 1 1 1 1 1 1\nbells 0 9\nstart 0 1 2 3 4 5 6 7 8 9"
        self.assert_results([*["door"] * 12, "then 12", "told 10 9", "ways", "floors"],
                            [*["10"] * 12, "0,1,2,3,4,5,6,7,8,9", "1", "1", "9"], head)

    def test_a_hundred_entries(self):
        self.assert_results(["gap"] * 99 + ["ways"], ["3"] * 99 + [str(3 ** 100)])

    def test_results_are_not_assigned(self):
        with self.assertRaises(AttributeError):
            Daybook(HEAD).results = ""


class TestListener(DaybookCase):

    def test_behind_all_entries(self):
        listener = Daybook(TEXT).listener()
        self.assertIsInstance(listener, Listener)
        self.assertEqual(seen(listener), seen(Listener.replay(SMALL, (0, 1, 2), [("hear", ("go", 4))])))
        self.assertIs(listener.redo(), True)
        self.assertEqual(listener.history, [("hear", ("go", 4)), ("told", 1, (2,))])
        self.assertIs(listener.redo(), False)

    def test_history_of_each_kind_of_entry(self):
        entries = ["gap", "look 0 1", "bell yes", "told 1 0 1", "door", "ways", "floors", "then 2", "go 4", "bell no"]
        history = [("hear", ("gap",)), ("hear", ("look", (0, 1))), ("hear", ("bell", True)), ("told", 1, (0, 1)),
                   ("hear", ("door",)), ("hear", ("go", 4)), ("hear", ("bell", False))]
        self.assertEqual(Daybook("\n".join([HEAD, *entries])).listener().history, history)

    def test_new_for_each_call(self):
        daybook = Daybook(TEXT)
        one = daybook.listener()
        before = seen(one)
        one.hear(("bell", True))
        one.mark("a")
        self.assertEqual(seen(daybook.listener()), before)
        self.assertEqual(daybook.results, "2\n1,2\n1\n1\n1\nyes\n2")

    def test_entries_by_chance(self):
        words = ["gap", "go 2", "go 3", "go 4", "bell yes", "bell no", "door", "look 0 1", "told 0 1 2", "told 1 0 1",
                 "told 2 0 2", "undo", "floors", "ways", "then 0", "then 1"]
        asks = {"ways": lambda one, rest: str(one.way_number()), "floors": lambda one, rest: one.floors,
                "then": lambda one, rest: one.floors_then(rest[0]),
                "undo": lambda one, rest: "yes" if one.undo() else "no",
                "told": lambda one, rest: str(one.told(rest[0], tuple(rest[1:]))),
                "go": lambda one, rest: str(one.hear(("go", *rest))), "gap": lambda one, rest: str(one.hear(("gap",))),
                "door": lambda one, rest: str(one.hear(("door",))),
                "look": lambda one, rest: str(one.hear(("look", tuple(rest))))}
        for seed in range(200):
            chosen = random.Random(seed)
            entries = chosen.choices(words, k=8)
            listener, lines, wrong = Listener(SMALL, (0, 1, 2)), [], None
            for index, entry in enumerate(entries):
                first, *rest = entry.split()
                try:
                    if first == "bell":
                        line = str(listener.hear(("bell", rest[0] == "yes")))
                    else:
                        line = asks[first](listener, [int(word) for word in rest])
                except LiftError:
                    wrong = index
                    break
                lines.append(line if isinstance(line, str) else ",".join(map(str, line)))
            text = "\n".join([HEAD, *entries])
            if wrong is None:
                self.assertEqual(Daybook(text).results, "\n".join(lines))
                self.assertEqual(seen(Daybook(text).listener()), seen(listener))
            else:
                self.assert_wrong(text, 3 + wrong, 0)


class TestHeads(DaybookCase):

    def test_missing_rows(self):
        self.assert_wrong("", 0, 0)
        self.assert_wrong("gaps 3 4", 1, 0)
        self.assert_wrong("gaps 3 4\nbells", 2, 0)
        self.assert_wrong("gaps", 0, 1)
        self.assert_wrong("gaps 3 4\nbells 1 1", 1, 2)

    def test_another_row_instead(self):
        self.assert_wrong("gaps 3 4\nbells 1\ngo 4", 2, 0)
        self.assert_wrong("gaps 3 4\nbells 1\ndoor\nstart 0", 2, 0)
        self.assert_wrong("gaps 3 4\nstart 0\nbells 1", 1, 0)
        self.assert_wrong("start 0\ngaps 3 4\nbells 1", 0, 0)
        self.assert_wrong(HEAD + "\nstart 0", 3, 0)
        self.assert_wrong("gaps 3 4\nbells 1\n", 2, 0)

    def test_start(self):
        for row, word in (("start", 1), ("start ", 1), ("start x", 1), ("start 01", 1), ("start 0 0", 2),
                          ("start 0 2 1", 3), ("start 1 0", 2), ("start 0 100", 2), ("start 0  1", 2), (" start 0", 0)):
            self.assert_wrong(f"gaps 3 4\nbells 1\n{row}", 2, word)
            self.assert_wrong(f"gaps 3 0\nbells 1\n{row}\ngo x", 2, word)

    def test_gaps_and_bells(self):
        self.assert_wrong("gaps x\nbells 1\nstart 0", 0, 1)
        self.assert_wrong("gaps 3 4\nbells 1 0\nstart 0", 1, 2)
        self.assert_wrong("gaps  3 4\nbells 1 0\nstart 0", 0, 1)


class TestWords(DaybookCase):

    def test_first_words(self):
        for word in ("", "x", "start", "gaps", "bells", "Go", "redo", "mark", "hear", "log", "7", "undo:"):
            self.assert_entry(word, 0)
            self.assert_entry(f"{word} 1", 0)

    def test_missing_words(self):
        for entry, word in (("go", 1), ("bell", 1), ("look", 1), ("told", 1), ("told 1", 2), ("then", 1)):
            self.assert_entry(entry, word)

    def test_superfluous_words(self):
        for entry, word in (("go 3 4", 2), ("bell yes no", 2), ("door 1", 1), ("gap 1", 1), ("undo 1", 1),
                            ("undo undo", 1), ("floors 0", 1), ("ways 0", 1), ("then 0 1", 2), ("then 0 0 0", 2)):
            self.assert_entry(entry, word)

    def test_wrong_words(self):
        for entry, word in (("go x", 1), ("go 03", 1), ("go 100", 1), ("bell Yes", 1), ("look 0 x", 2), ("told x 0", 1),
                            ("told 00 0", 1), ("told -1 0", 1), ("told 0 x", 2), ("told 0 0 x", 3), ("told 0 0 01", 3),
                            ("then x", 1), ("then 100", 1), ("then -1", 1), ("then \u0661", 1), ("told 100 0", 1)):
            self.assert_entry(entry, word)

    def test_spaces(self):
        for entry, word in (("go  3", 1), ("undo ", 1), (" undo", 0), ("told 0  1", 2), ("told 0 1 ", 3), ("told ", 1),
                            ("told 0 ", 2), ("ways ", 1), ("floors ", 1), ("then 0 ", 2), ("then ", 1)):
            self.assert_entry(entry, word)

    def test_floors_that_do_not_ascend(self):
        for entry, word in (("look 1 1", 2), ("look 2 1", 2), ("told 0 1 1", 3), ("told 0 2 1", 3), ("told 5 0 1 0", 4),
                            ("told 0 0 1 2 2", 5)):
            self.assert_entry(entry, word)

    def test_a_hundred_and_one_entries(self):
        for number in (101, 102, 150):
            self.assert_wrong("\n".join([HEAD] + ["door"] * number), 103, 0)
        self.assert_wrong("\n".join([HEAD] + ["door"] * 100 + ["x 1"]), 103, 0)
        self.assert_wrong("\n".join([HEAD] + ["door"] * 100 + ["go x"]), 103, 0)
        self.assert_wrong("\n".join([HEAD] + ["door"] * 99 + ["door 1", "door"]), 102, 1)
        self.assert_wrong("\n".join(["gaps 3 4", "bells 1", "start"] + ["door"] * 101), 2, 1)
        # As a word, ahead of the house and of entries.
        self.assert_wrong("\n".join(["gaps 0", "bells 1", "start 9"] + ["go 80"] * 101), 103, 0)


class TestOrder(DaybookCase):

    def assert_house(self, text, part, index):
        with self.assertRaises(InvalidHouse) as caught:
            Daybook(text)
        self.assertEqual((caught.exception.part, caught.exception.index), (part, index))

    def test_houses(self):
        self.assert_house("gaps 3 0\nbells 1\nstart 0", "gaps", 1)
        self.assert_house("gaps 1 1 1 1 1 1 1 1 1 1\nbells 1\nstart 0", "gaps", 9)
        self.assert_house("gaps 3 4\nbells 1 3\nstart 0", "bells", 1)

    def test_words_ahead_of_houses(self):
        self.assert_wrong("gaps 3 0\nbells 1\nstart 0\ndoor 1", 3, 1)
        self.assert_wrong("gaps 3 0\nbells 1", 2, 0)

    def test_houses_ahead_of_start_and_entries(self):
        self.assert_house("gaps 3 0\nbells 1\nstart 9", "gaps", 1)
        self.assert_house("gaps 3 4\nbells 5\nstart 0\ngo 80", "bells", 0)

    def test_start_ahead_of_entries(self):
        for start in ("3", "0 1 2 3", "99"):
            self.assert_wrong(f"gaps 3 4\nbells 1\nstart {start}", 2, 0)
            self.assert_wrong(f"gaps 3 4\nbells 1\nstart {start}\ngo 80", 2, 0)

    def test_entries_that_raise_errors(self):
        for entry in ("go 0", "go 82", "go 99", "go 80", "look 3", "look 0 1 2 3", "then 1", "then 99", "told 1 0",
                      "told 0 3", "told 99 0"):
            self.assert_wrong(f"{HEAD}\n{entry}", 3, 0)
            self.assert_wrong(f"{HEAD}\nways\nundo\nfloors\n{entry}\ngo 0", 6, 0)
        self.assert_wrong(f"{HEAD}\ngap\nbell yes\nbell no\nbell yes", 5, 0)
        self.assert_wrong(f"{HEAD}\ngo 4\ntold 0 0", 4, 0)

    def test_moments_that_were_not_yet(self):
        self.assert_results(["gap", "then 1", "told 1 1"], ["3", "0,1,2", "3"])
        self.assert_wrong(f"{HEAD}\nthen 1\ngap", 3, 0)
        self.assert_wrong(f"{HEAD}\ngap\nundo\nthen 1", 5, 0)
        self.assert_wrong(f"{HEAD}\ngap\ngap\nundo\ntold 2 1", 6, 0)


if __name__ == "__main__":
    unittest.main()

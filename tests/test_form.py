"""The form of the package: sizes, characters, imports and builtins, and where the interface is defined."""

import ast
import builtins
import importlib
import pathlib
import unittest

FOLDER = pathlib.Path(__file__).resolve().parent.parent / "liftheard"
FILES = sorted(FOLDER.rglob("*.py"))
BUILTINS = set(
    "len range enumerate zip min max sum abs sorted reversed int str bool list tuple dict set isinstance ord repr"
    " any all divmod map iter next property classmethod staticmethod super ValueError KeyError".split()
)
INTERFACE = {
    "houses": {"House": "gaps bells"},
    "hearing": {"floors_behind": "house start log", "first_wrong": "house start log"},
    "ways": {
        "ways": "house start log", "way_count": "house start log", "way_at": "house start log index",
        "judged": "house start log floor", "passed": "house start log floor",
    },
    "pools": {"houses_left": "pool start log", "possible_gaps": "bells count most start log"},
    "riders": {"fits": "house stops riders", "rider_ways": "house start log riders"},
    "serving": {
        "served": "house rule begin calls", "waiting": "house rule begin calls", "best_rules": "house begin calls",
    },
    "timed": {"served_timed": "house rule begin calls"},
    "orders": {"least_waiting": "house begin calls"},
    "nights": {"difference": "house one other begin most", "rules_of": "house begin nights"},
    "sounds": {"sounds": "house begin stops"},
    "looks": {
        "floors_at": "house start log moment", "best_moment": "house start log", "fewest_looks": "house start log",
        "floors_by": "house start log slack", "least_slack": "house start log",
    },
    "wrongs": {"wrong_bells": "house start log most", "bell_judged": "house start log floor"},
    "pairs": {
        "two_floors": "house one other log", "two_ways": "house one other log",
        "whose_row": "house one other log index",
    },
    "farnights": {
        "floor_after": "house rule begin calls count", "seconds_after": "house rule begin calls count",
        "first_night": "house rule begin calls floor", "guesses": "house nights",
        "next_night": "house nights options",
    },
    "listeners": {"Listener": "house start", "Trial": "listener"},
    "controls": {"Control": "house rule begin"},
    "notation": {"format_log": "house log", "parse_log": "text"},
    "pictures": {"shaft": "house floors", "ways_table": "house start log"},
    "codec": {"encode_log": "house log", "decode_log": "values"},
    "daybooks": {"Daybook": "text"},
}
METHODS = {
    ("houses", "House"): {"seconds": "self one other", "turned": "self", "gaps": "self", "bells": "self",
                          "floors": "self", "__len__": "self", "__eq__": "self other"},
    ("listeners", "Listener"): {
        "hear": "self row", "told": "self moment floors", "go": "self name", "way_number": "self",
        "mark": "self name", "undo": "self", "redo": "self", "floors_then": "self moment",
        "apply_all": "self operations", "tried": "self operations keep", "replay": "cls house start operations",
        "log": "self", "floors": "self", "marks": "self", "history": "self",
    },
    ("listeners", "Trial"): {"hold": "self", "__enter__": "self", "__exit__": "self kind value trace"},
    ("controls", "Control"): {
        "call": "self floor", "serve": "self", "serve_all": "self", "heard": "self", "here": "self",
        "clock": "self", "open_calls": "self", "is_up": "self",
    },
    ("daybooks", "Daybook"): {"listener": "self", "results": "self"},
}


def parsed(path):
    return ast.parse(path.read_text(encoding="utf-8"))


def defined(nodes):
    return {node.name: node for node in nodes if isinstance(node, (ast.FunctionDef, ast.ClassDef))}


def parameters(function):
    return " ".join(argument.arg for argument in function.args.args)


class TestForm(unittest.TestCase):

    def test_folder_contains_nothing_else(self):
        found = [path for path in FOLDER.rglob("*") if "__pycache__" not in path.parts]
        self.assertEqual(sorted(found), FILES)

    def test_sizes_and_characters(self):
        for path in FILES:
            text = path.read_bytes().decode("ascii")
            with self.subTest(file=path.name):
                self.assertTrue(all(sign == "\n" or " " <= sign <= "~" for sign in text))
                lines = text.split("\n")
                self.assertLessEqual(len(lines), 400)
                self.assertLessEqual(max(map(len, lines)), 120)
                for node in ast.walk(parsed(path)):
                    if isinstance(node, ast.FunctionDef):
                        self.assertLessEqual(node.end_lineno - node.lineno + 1, 40, node.name)

    def test_imports_name_the_file_that_defines(self):
        for path in FILES:
            for node in ast.walk(parsed(path)):
                self.assertNotIsInstance(node, ast.Import, path.name)
                if isinstance(node, ast.ImportFrom):
                    package, module = node.module.split(".")
                    self.assertEqual((package, node.level), ("liftheard", 0), path.name)
                    there = defined(parsed(FOLDER / f"{module}.py").body)
                    constants = importlib.import_module(node.module).__dict__
                    for alias in node.names:
                        self.assertTrue(alias.name in there or alias.name.isupper(), alias.name)
                        self.assertIn(alias.name, constants)

    def test_builtins(self):
        for path in FILES:
            for node in ast.walk(parsed(path)):
                if isinstance(node, ast.Name) and hasattr(builtins, node.id):
                    self.assertIn(node.id, BUILTINS, path.name)

    def test_interface_is_defined_in_its_files(self):
        for module, names in INTERFACE.items():
            there = defined(parsed(FOLDER / f"{module}.py").body)
            for name, expected in names.items():
                with self.subTest(module=module, name=name):
                    node = there[name]
                    if isinstance(node, ast.ClassDef):
                        methods = defined(node.body)
                        self.assertEqual(parameters(methods["__init__"]), f"self {expected}")
                        for method, arguments in METHODS[module, name].items():
                            self.assertEqual(parameters(methods[method]), arguments)
                    else:
                        self.assertEqual(parameters(node), expected)


if __name__ == "__main__":
    unittest.main()

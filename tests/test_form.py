"""The form of the package: sizes, characters, imports and builtins, and where the interface is defined."""

import ast
import builtins
import importlib
import pathlib
import unittest

FOLDER = pathlib.Path(__file__).resolve().parent.parent / "liftheard"
FILES = sorted(FOLDER.rglob("*.py"))
BUILTINS = set(
    "len range enumerate zip min max sum abs sorted reversed int str bool list tuple dict set isinstance ord repr"
    " any all divmod map iter next property classmethod staticmethod super ValueError KeyError".split()
)
INTERFACE = {
    "houses": {"House": "gaps bells"},
    "hearing": {"floors_behind": "house start log", "first_wrong": "house start log"},
    "ways": {
        "ways": "house start log", "way_count": "house start log", "way_at": "house start log index",
        "judged": "house start log floor", "passed": "house start log floor",
    },
    "pools": {"houses_left": "pool start log", "possible_gaps": "bells count most start log"},
    "riders": {"fits": "house stops riders", "rider_ways": "house start log riders"},
    "serving": {
        "served": "house rule begin calls", "waiting": "house rule begin calls", "best_rules": "house begin calls",
    },
    "timed": {"served_timed": "house rule begin calls"},
    "orders": {"least_waiting": "house begin calls"},
    "nights": {"difference": "house one other begin most", "rules_of": "house begin nights"},
    "sounds": {"sounds": "house begin stops"},
    "looks": {
        "floors_at": "house start log moment", "best_moment": "house start log", "fewest_looks": "house start log",
        "floors_by": "house start log slack", "least_slack": "house start log",
    },
    "wrongs": {"wrong_bells": "house start log most", "bell_judged": "house start log floor"},
    "pairs": {
        "two_floors": "house one other log", "two_ways": "house one other log",
        "whose_row": "house one other log index",
    },
    "farnights": {
        "floor_after": "house rule begin calls count", "seconds_after": "house rule begin calls count",
        "first_night": "house rule begin calls floor", "guesses": "house nights",
        "next_night": "house nights options",
    },
    "listeners": {"Listener": "house start", "Trial": "listener"},
    "controls": {"Control": "house rule begin"},
    "notation": {"format_log": "house log", "parse_log": "text"},
    "pictures": {"shaft": "house floors", "ways_table": "house start log"},
    "codec": {"encode_log": "house log", "decode_log": "values"},
    "daybooks": {"Daybook": "text"},
}
METHODS = {
    ("houses", "House"): {"seconds": "self one other", "turned": "self", "gaps": "self", "bells": "self",
                          "floors": "self", "__len__": "self", "__eq__": "self other"},
    ("listeners", "Listener"): {
        "hear": "self row", "told": "self moment floors", "go": "self name", "way_number": "self",
        "mark": "self name", "undo": "self", "redo": "self", "floors_then": "self moment",
        "apply_all": "self operations", "tried": "self operations keep", "replay": "cls house start operations",
        "log": "self", "floors": "self", "marks": "self", "history": "self",
    },
    ("listeners", "Trial"): {"hold": "self", "__enter__": "self", "__exit__": "self kind value trace"},
    ("controls", "Control"): {
        "call": "self floor", "serve": "self", "serve_all": "self", "heard": "self", "here": "self",
        "clock": "self", "open_calls": "self", "is_up": "self",
    },
    ("daybooks", "Daybook"): {"listener": "self", "results": "self"},
}


def parsed(path):
    return ast.parse(path.read_text(encoding="utf-8"))


def defined(nodes):
    return {node.name: node for node in nodes if isinstance(node, (ast.FunctionDef, ast.ClassDef))}


def parameters(function):
    return " ".join(argument.arg for argument in function.args.args)


def is_place(node):
    """Whether this is a name, or an attribute of such."""
    while isinstance(node, ast.Attribute):
        node = node.value
    return isinstance(node, ast.Name)


def is_value(node):
    """Whether a row of `__exit__` or `finally` may give this value."""
    match node:
        case ast.Constant():
            return True
        case ast.List(elts=parts) | ast.Tuple(elts=parts):
            return all(map(is_value, parts))
        case ast.BinOp(left=left, op=ast.Add(), right=right):
            return is_value(left) and is_value(right)
        case ast.BinOp(left=left, op=ast.Sub(), right=ast.Constant(value=int())):
            return is_value(left)
    return is_place(node)


def is_plain(row, of_exit):
    """Whether a row other than an `if` may stand in `__exit__`, or in a `finally`."""
    # L6 lists a few more rows, which the package does not need.
    match row:
        case ast.Pass():
            return True
        case ast.Return(value=None | ast.Constant(value=None | False)):
            return of_exit
        case ast.Assign(targets=[ast.Name()], value=value):
            return is_value(value) and (isinstance(value, ast.Attribute) or not of_exit)
        case ast.Assign(targets=[ast.Attribute() as target], value=value):
            return is_place(target) and is_value(value)
        case ast.AugAssign(target=target, op=ast.Add() | ast.Sub(), value=ast.Constant(value=int())):
            return is_place(target) and (isinstance(target, ast.Attribute) or not of_exit)
        case ast.Expr(value=ast.Call(func=ast.Attribute(value=place, attr="append"), args=[value], keywords=[])):
            return is_place(place) and is_value(value)
        case ast.Expr(value=ast.Call(func=ast.Attribute(value=place, attr="clear"), args=[], keywords=[])):
            return is_place(place)
    return False


def asks_none(test):
    """Whether a test is `is None` or `is not None` of a name or an attribute, or `and`, `or`, `not` of such tests."""
    match test:
        case ast.BoolOp(values=parts):
            return all(map(asks_none, parts))
        case ast.UnaryOp(op=ast.Not(), operand=part):
            return asks_none(part)
        case ast.Compare(left=left, ops=[ast.Is() | ast.IsNot()], comparators=[ast.Constant(value=None)]):
            return is_place(left)
    return False


def wrong_rows(rows, of_exit):
    """Yield the number of each of these rows of `__exit__` or `finally` that may not stand there."""
    for row in rows:
        if isinstance(row, ast.If):
            if not asks_none(row.test):
                yield row.lineno
            yield from wrong_rows(row.body + row.orelse, of_exit)
        elif not is_plain(row, of_exit):
            yield row.lineno


def wrongly_read(function):
    """Yield the number of each row of `__exit__` that reads what it is handed otherwise than by `kind is None`."""
    kind, *unread = [argument.arg for argument in function.args.args[1:]] or [None]
    if function.args.vararg:
        unread.append(function.args.vararg.arg)
    asked = [node.left for node in ast.walk(function) if isinstance(node, ast.Compare)]
    for node in ast.walk(function):
        if isinstance(node, ast.Name) and (node.id in unread or node.id == kind and node not in asked):
            yield node.lineno


def wrong_ends(tree):
    """The ascending numbers of all wrong rows of `__exit__` and `finally`, in a package with `__eq__` or `__len__`."""
    wrong = []
    for node in ast.walk(tree):
        if isinstance(node, ast.FunctionDef) and node.name == "__exit__":
            wrong += [*wrong_rows(node.body, True), *wrongly_read(node)]
        elif isinstance(node, (ast.Try, ast.TryStar)):
            wrong += wrong_rows(node.finalbody, False)
    return sorted(set(wrong))


class TestForm(unittest.TestCase):

    def test_folder_contains_nothing_else(self):
        found = [path for path in FOLDER.rglob("*") if "__pycache__" not in path.parts]
        self.assertEqual(sorted(found), FILES)

    def test_sizes_and_characters(self):
        for path in FILES:
            text = path.read_bytes().decode("ascii")
            with self.subTest(file=path.name):
                self.assertTrue(all(sign == "\n" or " " <= sign <= "~" for sign in text))
                lines = text.split("\n")
                self.assertLessEqual(len(lines), 400)
                self.assertLessEqual(max(map(len, lines)), 120)
                for node in ast.walk(parsed(path)):
                    if isinstance(node, ast.FunctionDef):
                        self.assertLessEqual(node.end_lineno - node.lineno + 1, 40, node.name)

    def test_imports_name_the_file_that_defines(self):
        for path in FILES:
            for node in ast.walk(parsed(path)):
                self.assertNotIsInstance(node, ast.Import, path.name)
                if isinstance(node, ast.ImportFrom):
                    package, module = node.module.split(".")
                    self.assertEqual((package, node.level), ("liftheard", 0), path.name)
                    there = defined(parsed(FOLDER / f"{module}.py").body)
                    constants = importlib.import_module(node.module).__dict__
                    for alias in node.names:
                        self.assertTrue(alias.name in there or alias.name.isupper(), alias.name)
                        self.assertIn(alias.name, constants)

    def test_builtins(self):
        for path in FILES:
            for node in ast.walk(parsed(path)):
                if isinstance(node, ast.Name) and hasattr(builtins, node.id):
                    self.assertIn(node.id, BUILTINS, path.name)

    def test_interface_is_defined_in_its_files(self):
        for module, names in INTERFACE.items():
            there = defined(parsed(FOLDER / f"{module}.py").body)
            for name, expected in names.items():
                with self.subTest(module=module, name=name):
                    node = there[name]
                    if isinstance(node, ast.ClassDef):
                        methods = defined(node.body)
                        self.assertEqual(parameters(methods["__init__"]), f"self {expected}")
                        for method, arguments in METHODS[module, name].items():
                            self.assertEqual(parameters(methods[method]), arguments)
                    else:
                        self.assertEqual(parameters(node), expected)

    def test_rows_of_exit_and_finally(self):
        # House has `__eq__` and `__len__`, so that no such row may ask a name or an attribute alone.
        for path in FILES:
            self.assertEqual(wrong_ends(parsed(path)), [], path.name)


class TestEnds(unittest.TestCase):
    """Whether the test of the rows of `__exit__` and `finally` finds what is wrong."""

    ALIKE = (
        "pass", "self.a = None", "self.a = 5", "self.a = b", "self.a.b = c.d", "self.a = [b, (1, c.d)]",
        "self.a = b + c", "self.a = b - 1", "self.a += 1", "self.a -= 1", "self.a.append(b)", "self.a.clear()",
        "b = self.a",
    )
    WRONG = (
        "self.a = not b", "self.a = b if c is None else d", "self.a = b is None", "self.a = b or c", "self.a = f(b)",
        "self.a = b - c", "self.a = b * 2", "self.a = -1", "self.a = b[0]", "self.a[0] = b", "self.a -= b",
        "self.a *= 2", "self.shut()", "f(b)", "self.a.pop()", "self.a.append(f(b))", "del self.a", "raise a",
        "assert a is None", "while a is None: pass", "for a in b: pass", "with a: pass", "return True", "return b",
        "self.a = {}", "self.a = [*b]", "yield",
    )
    RIGHT_TESTS = (
        "a is None", "a is not None", "self.a is None", "self.a.b is not None", "not self.a is None",
        "a is None and self.b is None", "not (a is None or b is not None) and c is None",
    )
    WRONG_TESTS = (
        "a", "self.a", "not a", "not self.a", "self.a is True", "self.a is not b", "self.a == None", "self.a == 1",
        "self.a != 0", "self.a > 3", "a is None and b", "not (a is None or not self.b)", "f(a) is None",
        "a[0] is None", "len(a)", "a in b", "None is a", "a is b is None", "True", "(a := b) is None",
    )

    def of_exit(self, *rows):
        head = ["class Block:", "    def __exit__(self, kind, value, trace):"]
        return wrong_ends(ast.parse("\n".join(head + [f"        {row}" for row in rows])))

    def of_finally(self, *rows):
        head = ["def told(self, a, b):", "    try:", "        pass", "    finally:"]
        return wrong_ends(ast.parse("\n".join(head + [f"        {row}" for row in rows])))

    def test_rows(self):
        for row in self.ALIKE:
            with self.subTest(row=row):
                self.assertEqual((self.of_exit(row), self.of_finally(row)), ([], []))
        for row in self.WRONG:
            with self.subTest(row=row):
                self.assertEqual((self.of_exit("pass", row), self.of_finally(row, "pass")), ([4], [5]))

    def test_rows_of_one_of_the_two(self):
        for row in ("return", "return None", "return False"):
            self.assertEqual((self.of_exit(row), self.of_finally(row)), ([], [5]))
        for row in ("a = b", "a = 1", "a = b + c", "a += 1", "a -= 1"):
            self.assertEqual((self.of_exit(row), self.of_finally(row)), ([3], []))

    def test_tests(self):
        for test in self.RIGHT_TESTS:
            with self.subTest(test=test):
                self.assertEqual((self.of_exit(f"if {test}: pass"), self.of_finally(f"if {test}: pass")), ([], []))
        for test in self.WRONG_TESTS:
            with self.subTest(test=test):
                self.assertEqual((self.of_exit(f"if {test}: pass"), self.of_finally(f"if {test}: pass")), ([3], [5]))

    def test_rows_and_tests_within_an_if(self):
        for row in ("self.shut()", "if self.a: pass"):
            for rows in (["if a is None:", f"    {row}"], ["if a is None: pass", "else:", f"    {row}"]):
                with self.subTest(rows=rows):
                    last = len(rows)
                    self.assertEqual((self.of_exit(*rows), self.of_finally(*rows)), ([last + 2], [last + 4]))
        rows = ["if a is None: pass", "elif self.a: pass", "else:", "    self.b = not a"]
        self.assertEqual((self.of_exit(*rows), self.of_finally(*rows)), ([4, 6], [6, 8]))

    def test_what_exit_is_handed(self):
        for row in ("if kind is None: pass", "if kind is not None: self.a = None"):
            self.assertEqual(self.of_exit(row), [])
        for row in ("self.a = kind", "self.a.append(value)", "if value is None: pass", "if trace is None: pass",
                    "if kind is None: self.a = trace", "self.a = [kind]"):
            with self.subTest(row=row):
                self.assertEqual(self.of_exit(row), [3])
        text = "class Block:\n    def __exit__(self, *told):\n        "
        self.assertEqual(wrong_ends(ast.parse(text + "self.a = told")), [3])
        self.assertEqual(wrong_ends(ast.parse(text + "self.a = None")), [])


if __name__ == "__main__":
    unittest.main()

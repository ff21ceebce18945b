"""The rules of ../shared/LANGUAGE.md that can be seen in the files one by one."""

import ast
import pathlib
import unittest
import warnings

PACKAGE = pathlib.Path(__file__).resolve().parent.parent / "slotsure"
FILES = sorted(PACKAGE.rglob("*.py"))

# L2: what may come from outside the package.
LIBRARY = {
    "heapq": {"heappush", "heappop", "heapify", "heapreplace", "heappushpop"},
    "math": {"gcd", "lcm", "isqrt", "comb", "perm", "factorial"},
    "itertools": {
        "product", "combinations", "permutations", "chain", "accumulate", "pairwise", "islice", "zip_longest",
    },
    "collections": {"defaultdict", "deque"},
    "__future__": {"annotations"},
}

# L8, without what stands in __main__.py alone.
BUILTINS = set(
    "len range enumerate zip min max sum abs sorted reversed int str bool list tuple dict set isinstance ord repr "
    "any all divmod pow iter next map getattr hasattr setattr type super property staticmethod classmethod object "
    "Exception ValueError TypeError KeyError IndexError LookupError ZeroDivisionError ArithmeticError OverflowError "
    "RuntimeError NotImplementedError AttributeError StopIteration NotImplemented".split()
)

# L25: methods of builtin values; own ones come with the classes that have them.
METHODS = set(
    "append clear copy count endswith extend find get index insert isalnum isalpha isdigit islower isspace isupper "
    "items join keys ljust lower lstrip partition pop remove replace reverse rfind rjust rpartition rsplit rstrip "
    "setdefault split splitlines startswith strip update upper values zfill bit_length isascii isdecimal".split()
)

# Methods that the package's own classes define.
OWN_METHODS = {
    method.name
    for path in FILES for row in ast.parse(path.read_text(encoding="utf-8")).body if isinstance(row, ast.ClassDef)
    for method in row.body if isinstance(method, ast.FunctionDef)
}

PLAIN_AT_MODULE_LEVEL = (ast.ImportFrom, ast.FunctionDef, ast.ClassDef, ast.Assign)


def tree_of(path):
    return ast.parse(path.read_text(encoding="utf-8"))


def is_docstring(row):
    return isinstance(row, ast.Expr) and isinstance(row.value, ast.Constant) and isinstance(row.value.value, str)


def is_self(node):
    return isinstance(node, ast.Name) and node.id == "self"


def bound_names(tree):
    """Each name that the file binds anywhere."""
    bound = set()
    for node in ast.walk(tree):
        if isinstance(node, ast.Name) and not isinstance(node.ctx, ast.Load):
            bound.add(node.id)
        elif isinstance(node, (ast.FunctionDef, ast.ClassDef)):
            bound.add(node.name)
        elif isinstance(node, ast.arg):
            bound.add(node.arg)
        elif isinstance(node, ast.alias):
            bound.add(node.asname or node.name)
        elif isinstance(node, ast.ExceptHandler) and node.name:
            bound.add(node.name)
        elif isinstance(node, (ast.MatchAs, ast.MatchStar)) and node.name:
            bound.add(node.name)
    return bound


class Language(unittest.TestCase):
    def need_in_each_file(self, wrong_nodes):
        for path in FILES:
            with self.subTest(file=path.name):
                self.assertEqual([node.lineno for node in wrong_nodes(tree_of(path))], [])

    def test_the_package_holds_plain_python_files_alone(self):
        self.assertIn(PACKAGE / "__init__.py", FILES)
        self.assertLessEqual(len(FILES), 100)
        for path in PACKAGE.rglob("*"):
            if path.is_file() and path.parent.name != "__pycache__":
                self.assertRegex(path.name, r"\A(__init__|[a-z][a-z0-9_]*)\.py\Z")

    def test_characters_lines_and_sizes(self):
        for path in FILES:
            with self.subTest(file=path.name):
                text = path.read_bytes().decode("ascii")
                self.assertEqual([sign for sign in text if sign != "\n" and not " " <= sign <= "~"], [])
                lines = text.splitlines()
                self.assertLessEqual(len(lines), 399)
                self.assertLessEqual(max(len(line) for line in lines), 120)

    def test_functions_have_at_most_forty_lines(self):
        self.need_in_each_file(lambda tree: [
            node for node in ast.walk(tree)
            if isinstance(node, ast.FunctionDef) and node.end_lineno - node.lineno + 1 > 40
        ])

    def test_nothing_else_stands_at_module_level(self):
        self.need_in_each_file(lambda tree: [
            row for row in tree.body if not isinstance(row, PLAIN_AT_MODULE_LEVEL) and not is_docstring(row)
        ])

    def test_imports_by_full_names_from_the_package_or_the_told_library(self):
        for path in FILES:
            for node in ast.walk(tree_of(path)):
                self.assertNotIsInstance(node, ast.Import, path.name)
                if isinstance(node, ast.ImportFrom):
                    names = {alias.name for alias in node.names}
                    self.assertEqual(node.level, 0, path.name)
                    self.assertNotIn("*", names, path.name)
                    if not node.module.startswith("slotsure."):
                        self.assertLessEqual(names, LIBRARY.get(node.module, set()), path.name)

    def test_no_other_builtin_and_none_with_another_meaning(self):
        known = set(dir(__builtins__) if not isinstance(__builtins__, dict) else __builtins__)
        for path in FILES:
            tree = tree_of(path)
            bound = bound_names(tree)
            read = {node.id for node in ast.walk(tree) if isinstance(node, ast.Name)}
            with self.subTest(file=path.name):
                self.assertEqual(sorted(bound & known), [])
                self.assertEqual(sorted((read - bound) - BUILTINS), [])

    def test_no_local_name_is_that_of_an_import_or_of_what_the_file_defines(self):
        for path in FILES:
            tree = tree_of(path)
            above = {row.name for row in tree.body if isinstance(row, (ast.FunctionDef, ast.ClassDef))}
            above |= {alias.name for row in tree.body if isinstance(row, ast.ImportFrom) for alias in row.names}
            for row in tree.body:
                if isinstance(row, ast.FunctionDef):
                    with self.subTest(file=path.name, name=row.name):
                        self.assertEqual(sorted((bound_names(row) - {row.name}) & above), [])

    def test_names_are_bound_once_at_module_level(self):
        for path in FILES:
            bound = []
            for row in tree_of(path).body:
                if isinstance(row, (ast.FunctionDef, ast.ClassDef)):
                    bound.append(row.name)
                elif isinstance(row, ast.ImportFrom):
                    bound.extend(alias.name for alias in row.names)
                elif isinstance(row, ast.Assign):
                    bound.extend(target.id for target in row.targets)
            with self.subTest(file=path.name):
                self.assertEqual(sorted(bound), sorted(set(bound)))

    def test_no_list_or_dict_within_another_thing_at_module_level(self):
        def inner(node):
            return [
                other for other in ast.walk(node) if other is not node and isinstance(
                    other, (ast.List, ast.Dict, ast.Set),
                )
            ]

        self.need_in_each_file(lambda tree: [
            node for row in tree.body if isinstance(row, ast.Assign) for node in inner(row.value)
        ])

    def test_no_method_but_those_told(self):
        self.need_in_each_file(lambda tree: [
            node for node in ast.walk(tree)
            if isinstance(node, ast.Call) and isinstance(node.func, ast.Attribute)
            and node.func.attr not in (METHODS if not is_self(node.func.value) else OWN_METHODS)
        ])

    def test_no_generator_no_decorator_and_no_is_but_of_none_true_and_false(self):
        barred = (ast.GeneratorExp, ast.Yield, ast.YieldFrom, ast.Lambda, ast.Global, ast.AsyncFunctionDef, ast.Await)
        self.need_in_each_file(lambda tree: [
            node for node in ast.walk(tree)
            if isinstance(node, barred)
            or isinstance(node, (ast.FunctionDef, ast.ClassDef)) and node.decorator_list
            or isinstance(node, ast.Compare) and any(isinstance(sign, (ast.Is, ast.IsNot)) for sign in node.ops)
            and not isinstance(node.comparators[-1], ast.Constant)
        ])

    def test_no_two_files_import_from_each_other(self):
        needs = {}
        for path in FILES:
            needs[path.stem] = [
                row.module.partition(".")[2] for row in tree_of(path).body
                if isinstance(row, ast.ImportFrom) and row.module.startswith("slotsure.")
            ]
        for name in needs:
            seen, waiting = set(), list(needs[name])
            while waiting:
                other = waiting.pop()
                if other not in seen:
                    seen.add(other)
                    waiting.extend(needs[other])
            self.assertNotIn(name, seen)

    def test_no_number_with_a_point_and_no_plain_division(self):
        self.need_in_each_file(lambda tree: [
            node for node in ast.walk(tree)
            if isinstance(node, (ast.BinOp, ast.AugAssign)) and isinstance(node.op, ast.Div)
            or isinstance(node, ast.Constant) and isinstance(node.value, (float, complex))
        ])

    def test_no_percent_sign_in_a_string(self):
        self.need_in_each_file(lambda tree: [
            node for node in ast.walk(tree)
            if isinstance(node, ast.Constant) and isinstance(node.value, str) and "%" in node.value
        ])

    def test_python_gives_no_warning(self):
        for path in FILES:
            with self.subTest(file=path.name), warnings.catch_warnings():
                warnings.simplefilter("error")
                compile(path.read_text(encoding="utf-8"), path.name, "exec")


if __name__ == "__main__":
    unittest.main()

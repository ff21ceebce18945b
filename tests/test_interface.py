"""The names of the interface stand in their files, with the arguments that the document tells."""

import ast
import importlib
import inspect
import pathlib
import unittest

PACKAGE = pathlib.Path(__file__).resolve().parent.parent / "slotsure"

INTERFACE = {
    "words": {"is_whole": "thing least most", "is_name": "thing"},
    "shares": {"is_share": "thing", "share": "a b", "plus": "one other", "times": "one other"},
    "gears": {"need_gear": "gear", "slots": "gear box", "group": "gear box", "moved": "row order"},
    "terms": {"need_term": "gear term", "free": "gear term", "joined": "gear term"},
    "steps": {"walk": "gear term steps"},
    "forms": {"weight": "gear term", "form": "gear term", "form_steps": "gear term"},
    "sums": {
        "need_sum": "gear given", "plain": "gear given", "added": "gear one other", "scaled": "gear given by",
        "multiplied": "gear one other",
    },
    "joins": {
        "closed": "gear given name other", "renamed": "gear given pairs", "even": "gear given names",
        "odd": "gear given names",
    },
}


class Interface(unittest.TestCase):
    def test_functions_and_their_arguments(self):
        for file, functions in INTERFACE.items():
            module = importlib.import_module("slotsure." + file)
            for name, arguments in functions.items():
                with self.subTest(file=file, name=name):
                    told = inspect.signature(getattr(module, name)).parameters.values()
                    self.assertEqual([row.name for row in told], arguments.split())
                    for row in told:
                        self.assertIs(row.kind, inspect.Parameter.POSITIONAL_OR_KEYWORD)
                        self.assertIs(row.default, inspect.Parameter.empty)

    def test_each_is_defined_in_its_file(self):
        for file, functions in INTERFACE.items():
            tree = ast.parse((PACKAGE / (file + ".py")).read_text(encoding="utf-8"))
            defined = [row.name for row in tree.body if isinstance(row, ast.FunctionDef)]
            with self.subTest(file=file):
                self.assertEqual(sorted(set(functions) - set(defined)), [])


if __name__ == "__main__":
    unittest.main()

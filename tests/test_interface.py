"""The names of the interface stand in their files, with the arguments that the document tells."""

import ast
import importlib
import inspect
import pathlib
import unittest

PACKAGE = pathlib.Path(__file__).resolve().parent.parent / "slotsure"

INTERFACE = {
    "words": {"is_whole": "thing least most", "is_name": "thing"},
    "shares": {"is_share": "thing", "share": "a b", "plus": "one other", "times": "one other"},
    "gears": {"need_gear": "gear", "slots": "gear box", "group": "gear box", "moved": "row order"},
    "terms": {"need_term": "gear term", "free": "gear term", "joined": "gear term"},
    "steps": {"walk": "gear term steps"},
    "forms": {"weight": "gear term", "form": "gear term", "form_steps": "gear term"},
    "sums": {
        "need_sum": "gear given", "plain": "gear given", "added": "gear one other", "scaled": "gear given by",
        "multiplied": "gear one other",
    },
    "joins": {
        "closed": "gear given name other", "renamed": "gear given pairs", "even": "gear given names",
        "odd": "gear given names",
    },
    "arrays": {"need_sizes": "gear sizes", "need_arrays": "gear sizes arrays", "worth": "gear sizes arrays given"},
    "plans": {
        "cost": "gear sizes term plan", "least_plan": "gear sizes term", "worth_by": "gear sizes arrays term plan",
    },
    "alike": {
        "alike": "gear one other", "check_alike": "gear one other paper", "check_unlike": "gear one other witness",
    },
    "sized": {"alike_at": "gear sizes one other", "least_size": "gear one other"},
    "definitions": {"put_in": "gear box definition given", "has_move": "gear box definition number"},
    "texts": {
        "gear_text": "gear", "sum_text": "gear given", "arrays_text": "gear sizes arrays",
        "steps_text": "gear term steps",
    },
    "reading": {"gear_in": "text", "sum_in": "gear text", "arrays_in": "gear text", "steps_in": "gear term text"},
}

SHELF = {
    "__init__": "gear", "define": "box names given", "undefine": "box", "keep": "name one other", "drop": "name",
    "defined": "", "names": "", "definition": "box", "pair": "name", "full": "given", "verdict": "name",
    "turned": "deed",
    "arrays_of": "sizes arrays", "gear": "", "twin": "", "__eq__": "other", "__len__": "",
}


class Interface(unittest.TestCase):
    def test_functions_and_their_arguments(self):
        for file, functions in INTERFACE.items():
            module = importlib.import_module("slotsure." + file)
            for name, arguments in functions.items():
                with self.subTest(file=file, name=name):
                    told = inspect.signature(getattr(module, name)).parameters.values()
                    self.assertEqual([row.name for row in told], arguments.split())
                    for row in told:
                        self.assertIs(row.kind, inspect.Parameter.POSITIONAL_OR_KEYWORD)
                        self.assertIs(row.default, inspect.Parameter.empty)

    def test_each_is_defined_in_its_file(self):
        for file, functions in INTERFACE.items():
            tree = ast.parse((PACKAGE / (file + ".py")).read_text(encoding="utf-8"))
            defined = [row.name for row in tree.body if isinstance(row, ast.FunctionDef)]
            with self.subTest(file=file):
                self.assertEqual(sorted(set(functions) - set(defined)), [])

    def test_the_shelf_and_its_methods(self):
        tree = ast.parse((PACKAGE / "shelf.py").read_text(encoding="utf-8"))
        bodies = [row.body for row in tree.body if isinstance(row, ast.ClassDef) and row.name == "Shelf"]
        self.assertEqual(len(bodies), 1)
        defined = [row.name for row in bodies[0] if isinstance(row, ast.FunctionDef)]
        self.assertEqual(sorted(set(SHELF) - set(defined)), [])
        shelf = importlib.import_module("slotsure.shelf").Shelf
        for name, arguments in SHELF.items():
            with self.subTest(name=name):
                told = list(inspect.signature(getattr(shelf, name)).parameters.values())
                self.assertEqual([row.name for row in told], ["self", *arguments.split()])
                for row in told:
                    self.assertIs(row.kind, inspect.Parameter.POSITIONAL_OR_KEYWORD)
                    self.assertIs(row.default, inspect.Parameter.empty)


if __name__ == "__main__":
    unittest.main()

"""The interface: files, names and arguments, and a package that binds nothing."""

import ast
import importlib
import inspect
import pathlib
import unittest

FOLDER = pathlib.Path(__file__).resolve().parent.parent / "trueline"

# File by file, each drawing on those ahead of it alone.
FUNCTIONS = {
    "errors": {},
    "ratios": {
        "ratio": ["top", "under"], "plus": ["one", "other"], "minus": ["one", "other"],
        "times": ["one", "other"], "over": ["one", "other"], "is_ratio": ["thing"], "order_of": ["one", "other"],
    },
    "numbers": {
        "is_width": ["thing"], "is_number": ["thing", "width"], "is_measure": ["thing", "width"],
        "value": ["number"], "near": ["given", "width"], "lower": ["given", "width"], "upper": ["given", "width"],
        "next_up": ["number", "width"], "next_down": ["number", "width"], "opposite": ["number"],
    },
    "reckon": {
        "added": ["one", "other", "width"], "taken": ["one", "other", "width"],
        "multiplied": ["one", "other", "width"], "divided": ["one", "other", "width"], "root": ["given", "width"],
        "rest_by_steps": ["one", "other", "width"], "sum_rest": ["one", "other", "width"],
        "product_rest": ["one", "other", "width"], "halves": ["number", "width", "few"],
    },
    "heaps": {
        "grown": ["row", "number", "width"], "kept_whole": ["row", "width"], "is_apart": ["row"], "sign_of": ["row"],
    },
    "quick": {"quick_sum": ["row", "width"], "quick_dot": ["row", "other", "width"]},
    "truth": {
        "exact_sum": ["row"], "exact_dot": ["row", "other"], "exact_mean": ["row"], "exact_spread": ["row"],
        "true_sum": ["row", "width"], "true_dot": ["row", "other", "width"], "true_mean": ["row", "width"],
        "true_spread": ["row", "width"], "true_deviation": ["row", "width"],
    },
    "tables": {
        "is_row": ["thing", "width"], "is_table": ["thing", "width"], "column": ["table", "place"],
        "turned": ["table"], "product": ["table", "other", "width"], "ordered": ["table", "place"],
        "least_place": ["table"], "rising": ["row"], "middle": ["row", "width"],
    },
    "solving": {"determinant": ["rows"], "solved": ["rows", "right"]},
    "fits": {
        "line_of": ["row", "other"], "fitted": ["table", "places", "target"],
        "residues": ["table", "places", "target", "parts"], "misses": ["table", "places", "target", "parts"],
    },
    "decimals": {"read_text": ["text"], "read_measure": ["text", "width"]},
    "writing": {"written": ["given", "digits"], "briefest": ["number", "width"]},
    # What the rows of the desk need besides: no name of it is promised.
    "deskrows": {},
    "desk": {"play": ["text"]},
}

# Of one stage, so that neither draws on the other.
SIDE_BY_SIDE = ("decimals", "writing")


class Interface(unittest.TestCase):
    def test_the_init_binds_nothing(self):
        tree = ast.parse((FOLDER / "__init__.py").read_text())
        self.assertEqual([row for row in tree.body if not isinstance(row, ast.Expr)], [])

    def test_each_file_is_known_here(self):
        names = sorted(path.stem for path in FOLDER.glob("*.py"))
        self.assertEqual(names, sorted(["__init__"] + list(FUNCTIONS)))

    def test_functions_and_their_arguments(self):
        for name, functions in FUNCTIONS.items():
            module = importlib.import_module("trueline." + name)
            self.assertEqual(pathlib.Path(module.__file__), FOLDER / (name + ".py"))
            for function, arguments in functions.items():
                signature = inspect.signature(getattr(module, function))
                self.assertEqual(list(signature.parameters), arguments, function)
                for parameter in signature.parameters.values():
                    self.assertIs(parameter.default, inspect.Parameter.empty)

    def test_each_file_draws_on_those_ahead(self):
        order = list(FUNCTIONS)
        for place, name in enumerate(order):
            tree = ast.parse((FOLDER / (name + ".py")).read_text())
            drawn = [row.module for row in tree.body if isinstance(row, ast.ImportFrom)]
            for module in drawn:
                self.assertIn(module, ["trueline." + ahead for ahead in order[:place]])
                self.assertFalse(name in SIDE_BY_SIDE and module[len("trueline."):] in SIDE_BY_SIDE, name)


if __name__ == "__main__":
    unittest.main()

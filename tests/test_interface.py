"""The interface: each name under its heading, defined in that file, with its parameters and methods."""

import ast
from importlib import import_module
from inspect import signature
from pathlib import Path
from unittest import TestCase, main

import feeblind

FOLDER = Path(feeblind.__file__).parent
PAIR = "(self, one, other)"
MEASURE = {"best": PAIR, "then": PAIR, "is_value": "(self, value)", "no_worse": PAIR, "__eq__": "(self, other)"}
NAMED = {**MEASURE, "__repr__": "(self)"}

FUNCTIONS = {
    "names": {"is_name": "(value)", "is_number": "(value, least=0, most=None)"},
    "rows": {"thin_rows": "(rows)", "covers": "(one, other)", "thin_open": "(rows)"},
    "dials": {"lowest_lines": "(lines, top)"},
}
CLASSES = {
    "measures": {
        "Measure": MEASURE,
        "Price": {**NAMED, "__init__": "(self, wish)"},
        "Width": {**NAMED, "__init__": "(self)"},
    },
    "rows": {
        "Trade": {**NAMED, "__init__": "(self, *wishes)", "wishes": "(self)"},
        "Open": {**NAMED, "__init__": "(self, wish)"},
    },
    "dials": {"Dial": {**NAMED, "__init__": "(self, wish, slope, top)"}},
}


def tree_of(module):
    """The tree of a file of the package."""
    return ast.parse((FOLDER / (module + ".py")).read_text(encoding="utf-8"))


class Interface(TestCase):
    def test_functions(self):
        for module, functions in FUNCTIONS.items():
            defined = {node.name for node in tree_of(module).body if isinstance(node, ast.FunctionDef)}
            for name, told in functions.items():
                self.assertIn(name, defined, module)
                self.assertEqual(str(signature(getattr(import_module("feeblind." + module), name))), told, name)

    def test_classes(self):
        for module, classes in CLASSES.items():
            defined = {node.name: node for node in tree_of(module).body if isinstance(node, ast.ClassDef)}
            for name, methods in classes.items():
                self.assertIn(name, defined, module)
                bodies = {part.name for part in defined[name].body if isinstance(part, ast.FunctionDef)}
                self.assertLessEqual(set(methods), bodies, name)

    def test_methods(self):
        for module, classes in CLASSES.items():
            for name, methods in classes.items():
                made = getattr(import_module("feeblind." + module), name)
                for method, told in methods.items():
                    if told is not None:
                        self.assertEqual(str(signature(getattr(made, method))), told, (name, method))


if __name__ == "__main__":
    main()

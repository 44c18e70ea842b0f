"""The interface: each name under its heading, defined in that file, with its parameters and methods."""

import ast
from importlib import import_module
from inspect import signature
from pathlib import Path
from unittest import TestCase, main

import feeblind

FOLDER = Path(feeblind.__file__).parent
PAIR = "(self, one, other)"
MEASURE = {"best": PAIR, "then": PAIR, "is_value": "(self, value)", "no_worse": PAIR, "__eq__": "(self, other)"}
NAMED = {**MEASURE, "__repr__": "(self)"}

FUNCTIONS = {
    "names": {"is_name": "(value)", "is_number": "(value, least=0, most=None)"},
    "rows": {"thin_rows": "(rows)", "covers": "(one, other)", "thin_open": "(rows)"},
    "dials": {"lowest_lines": "(lines, top)"},
    "hours": {"hours_of": "(day, windows, ticks)", "read_hours": "(value, t)", "latest_begin": "(value, end)"},
    "sentences": {"keeps": "(measure, sentence, one, two, three)", "judge_measure": "(measure)"},
}
VERDICTS = {
    "MeasureTaken": "(self)", "MeasureRefused": "(self, sentence, one, two, three)",
    "PlanTaken": "(self, needed, spare)", "PlanRefused": "(self, source, target, way)",
    "HubsTaken": "(self, size)", "HubsRefused": "(self, source, target, way)",
    "BoundsTaken": "(self)", "BoundsRefused": "(self, source, target)",
    "PaperTaken": "(self)", "PaperRefused": "(self, what, at)",
    "ClosingTaken": "(self)", "ClosingRefused": "(self, what)",
    "DialTaken": "(self)", "DialRefused": "(self, what, at)",
}
FEES = {"price": "(self, wish)", "prices": "(self)", "wheels": "(self)", "lets": "(self, wheel)"}
FEES.update({"__eq__": "(self, other)", "__repr__": "(self)"})
ROAD = "(self, name, tail, head, *, prices=None, width=1, ticks=1, mark=None, windows=None, wheels=None, doubtful=False)"
RULE = "(self, source, target, *, prices=None, ticks=0, wheels=None)"
CLASSES = {
    "measures": {
        "Measure": MEASURE,
        "Price": {**NAMED, "__init__": "(self, wish)"},
        "Width": {**NAMED, "__init__": "(self)"},
    },
    "rows": {
        "Trade": {**NAMED, "__init__": "(self, *wishes)", "wishes": "(self)"},
        "Open": {**NAMED, "__init__": "(self, wish)"},
    },
    "dials": {"Dial": {**NAMED, "__init__": "(self, wish, slope, top)"}},
    "hours": {"Hours": {**NAMED, "__init__": "(self, day)"}},
    "joint": {
        "Several": {**NAMED, "__init__": "(self, *measures)", "measures": "(self)"},
        "First": {**NAMED, "__init__": "(self, wish, inner)"},
    },
    "told": {"Told": {**NAMED, "__init__": "(self, names, best, then, stay)", "names": "(self)", "tables": "(self)"}},
    "verdicts": {name: {"__init__": made, "__eq__": "(self, other)"} for name, made in VERDICTS.items()},
    "roads": {
        "Road": {**FEES, "__init__": ROAD, "windows": "(self)", "open_at": "(self, t, day)"},
        # None: a property.
        "Rule": {**FEES, "__init__": RULE, "empty": None},
    },
}


def tree_of(module):
    """The tree of a file of the package."""
    return ast.parse((FOLDER / (module + ".py")).read_text(encoding="utf-8"))


class Interface(TestCase):
    def test_functions(self):
        for module, functions in FUNCTIONS.items():
            defined = {node.name for node in tree_of(module).body if isinstance(node, ast.FunctionDef)}
            for name, told in functions.items():
                self.assertIn(name, defined, module)
                self.assertEqual(str(signature(getattr(import_module("feeblind." + module), name))), told, name)

    def test_classes(self):
        for module, classes in CLASSES.items():
            defined = {node.name: node for node in tree_of(module).body if isinstance(node, ast.ClassDef)}
            for name, methods in classes.items():
                self.assertIn(name, defined, module)
                bodies = {part.name for part in defined[name].body if isinstance(part, ast.FunctionDef)}
                self.assertLessEqual(set(methods), bodies, name)

    def test_methods(self):
        for module, classes in CLASSES.items():
            for name, methods in classes.items():
                made = getattr(import_module("feeblind." + module), name)
                for method, told in methods.items():
                    if told is not None:
                        self.assertEqual(str(signature(getattr(made, method))), told, (name, method))


if __name__ == "__main__":
    main()

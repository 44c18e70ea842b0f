"""The interface: each name under its heading, defined in that file, with its parameters and methods."""

import ast
from importlib import import_module
from inspect import isgeneratorfunction, signature
from pathlib import Path
from unittest import TestCase, main

import feeblind

FOLDER = Path(feeblind.__file__).parent
PAIR = "(self, one, other)"
MEASURE = {"best": PAIR, "then": PAIR, "is_value": "(self, value)", "no_worse": PAIR, "__eq__": "(self, other)"}
NAMED = {**MEASURE, "__repr__": "(self)"}
FROM = "(measure, plan, table, begins)"
TO = "(measure, plan, table, ends)"

FUNCTIONS = {
    "names": {"is_name": "(value)", "is_number": "(value, least=0, most=None)"},
    "rows": {"thin_rows": "(rows)", "covers": "(one, other)", "thin_open": "(rows)"},
    "dials": {"lowest_lines": "(lines, top)"},
    "hours": {"hours_of": "(day, windows, ticks)", "read_hours": "(value, t)", "latest_begin": "(value, end)"},
    "sentences": {"keeps": "(measure, sentence, one, two, three)", "judge_measure": "(measure)"},
    "edits": {"check_edits": "(edits)", "edited": "(chart, edit)", "opposite": "(chart, edit)"},
    "shapes": {"shape_of": "(chart)", "cut_rings": "(way)", "simple_ways": "(shape, source, target)"},
    "nets": {
        "road_value": "(road, measure)", "arc_value": "(rule, road, measure)", "net_of": "(chart, measure, *, wheel='car')",
        "begins_at": "(chart, net, place)", "ends_at": "(chart, place)",
    },
    "plain": {
        "worth": "(net, way)", "worth_from": "(net, begin, way)", "plain_between": "(net, source, target)",
        "plain_answer": "(net, begins, ends)", "answering": "(net, begins, ends)", "rounds": "(net, begins)",
        "next_round": "(net, marks)",
    },
    "plans": {
        "check_order": "(shape, order)", "low_pairs": "(shape, order)", "plan_of": "(shape, order, *, spare=())",
        "order_by_few": "(shape)", "fitted": "(plan, shape)",
    },
    "judging": {"judge_plan": "(shape, plan)", "net_of_way": "(shape, way)", "counter_case": "(measure, refused)"},
    "ladder": {
        "fill": "(net, plan)", "climb": FROM, "climb_back": TO, "fan": FROM, "fan_back": TO,
        "meet": "(measure, plan, ups, backs)", "told_answer": "(measure, plan, table, begins, ends)",
        "told_between": "(measure, plan, table, source, target)",
        "told_many": "(measure, plan, table, questions, goals)", "told_case": "(case)", "plain_case": "(case)",
    },
    "papers": {"judge_answer": "(net, begins, ends, paper)", "solve": "(net, plan, begins, ends)"},
    "hubs": {
        "judge_hubs": "(shape, hubs)", "hubs_of": "(plan)", "thin": "(shape, hubs)",
        "hubs_between": "(net, hubs, source, target)", "hubs_answer": "(net, hubs, begins, ends)",
    },
    "cells": {
        "check_cells": "(shape, cells)", "entry_roads": "(shape, cells, cell)", "exit_roads": "(shape, cells, cell)",
        "cell_table": "(net, cells, cell)", "cell_tables": "(net, cells)",
        "cells_between": "(net, cells, tables, source, target)", "cells_answer": "(net, cells, tables, begins, ends)",
    },
    "bounds": {
        "judge_bounds": "(net, ends, bounds)", "mend": "(net, ends, bounds)", "greatest_bounds": "(*tables)",
        "landmark_bounds": "(net, landmarks, goal)", "led": "(net, begins, ends, bounds)",
    },
    "hanging": {
        "through": "(net, begins, ends, road)", "slack": "(net, begins, ends, road)",
        "needed_roads": "(net, begins, ends)", "detours": "(net, begins, ends, way)",
    },
    "closings": {
        "judge_closing": "(net, begins, ends, paper)", "least_closings": "(net, begins, ends)",
        "cuts": "(net, begins, ends, roads)",
    },
    "opentables": {"open_table": "(net, begins, ends)"},
    "settings": {
        "lowest": "(setting)", "read_dial": "(measure, value, setting)", "joints": "(measure, value)",
        "stretches": "(measure, value)", "net_at": "(net, setting)", "begins_read": "(net, begins, setting)",
    },
    "dialpapers": {"judge_dial": "(net, begins, ends, paper)", "dial_paper": "(net, begins, ends)"},
    "clocks": {"clock": "(net, begins, way, t)", "way_at": "(net, begins, ends, t)"},
    "trials": {"held_text": "(house, edits, keep)", "text_behind": "(house, *edits)"},
}
GENERATORS = {"shapes": ["simple_ways"], "plain": ["rounds"]}
VERDICTS = {
    "MeasureTaken": "(self)", "MeasureRefused": "(self, sentence, one, two, three)",
    "PlanTaken": "(self, needed, spare)", "PlanRefused": "(self, source, target, way)",
    "HubsTaken": "(self, size)", "HubsRefused": "(self, source, target, way)",
    "BoundsTaken": "(self)", "BoundsRefused": "(self, source, target)",
    "PaperTaken": "(self)", "PaperRefused": "(self, what, at)",
    "ClosingTaken": "(self)", "ClosingRefused": "(self, what)",
    "DialTaken": "(self)", "DialRefused": "(self, what, at)",
}
FEES = {"price": "(self, wish)", "prices": "(self)", "wheels": "(self)", "lets": "(self, wheel)"}
FEES.update({"__eq__": "(self, other)", "__repr__": "(self)"})
ROAD = "(self, name, tail, head, *, prices=None, width=1, ticks=1, mark=None, windows=None, wheels=None, doubtful=False)"
RULE = "(self, source, target, *, prices=None, ticks=0, wheels=None)"
# Equal, shown, and true also with a len of 0.
BAG = {"__eq__": "(self, other)", "__repr__": "(self)", "__len__": "(self)", "__bool__": "(self)"}
CHART = {
    **BAG, "__init__": "(self, roads=(), rules=())", "roads": "(self)", "names": "(self)", "road_named": "(self, name)",
    "places": "(self)", "turns": "(self)", "rule": "(self, source, target)", "rules": "(self)", "leaving": "(self, place)",
    "arriving": "(self, place)", "text": "(self)", "read": "(text)", "__contains__": "(self, name)", "__iter__": "(self)",
}
CLASSES = {
    "measures": {
        "Measure": MEASURE,
        "Price": {**NAMED, "__init__": "(self, wish)"},
        "Width": {**NAMED, "__init__": "(self)"},
    },
    "rows": {
        "Trade": {**NAMED, "__init__": "(self, *wishes)", "wishes": "(self)"},
        "Open": {**NAMED, "__init__": "(self, wish)"},
    },
    "dials": {"Dial": {**NAMED, "__init__": "(self, wish, slope, top)"}},
    "hours": {"Hours": {**NAMED, "__init__": "(self, day)"}},
    "joint": {
        "Several": {**NAMED, "__init__": "(self, *measures)", "measures": "(self)"},
        "First": {**NAMED, "__init__": "(self, wish, inner)"},
    },
    "told": {"Told": {**NAMED, "__init__": "(self, names, best, then, stay)", "names": "(self)", "tables": "(self)"}},
    "verdicts": {name: {"__init__": made, "__eq__": "(self, other)"} for name, made in VERDICTS.items()},
    "roads": {
        "Road": {**FEES, "__init__": ROAD, "windows": "(self)", "open_at": "(self, t, day)"},
        # None: a property.
        "Rule": {**FEES, "__init__": RULE, "empty": None},
    },
    "charts": {"Chart": CHART},
    "shapes": {
        "Shape": {
            **BAG, "__init__": "(self, roads, turns)", "roads": "(self)", "turns": "(self)", "following": "(self, road)",
            "leading": "(self, road)", "without": "(self, road)", "is_way": "(self, value)", "__contains__": "(self, name)",
        },
    },
    "nets": {
        "Net": {
            "__init__": "(self, shape, measure, entries, arcs)", "entry": "(self, road)", "arc": "(self, source, target)",
            "entries": "(self)", "arcs": "(self)", "with_arcs": "(self, arcs)", "closed": "(self, roads)",
            "__eq__": "(self, other)", "__repr__": "(self)",
        },
    },
    "plans": {
        "Plan": {
            **BAG, "__init__": "(self, order, pairs)", "order": "(self)", "rank": "(self, road)", "pairs": "(self)",
            "is_lower": "(self, one, other)", "without": "(self, road)", "text": "(self)", "read": "(text)",
            "__contains__": "(self, pair)",
        },
    },
    "judging": {
        "Case": {"__init__": "(self, net, plan, begins, ends, source, target)", "begins": "(self)", "ends": "(self)"},
    },
    "papers": {
        "Answer": {"__init__": "(self, value, ways, paper=None)", "ways": "(self)", "__eq__": "(self, other)"},
        "AnswerPaper": {
            "__init__": "(self, marks, ways, claim)", "marks": "(self)", "ways": "(self)", "__eq__": "(self, other)",
        },
    },
    "keeping": {
        "Kept": {
            "__init__": "(self, net, plan)", "net_now": "(self)", "plan_now": "(self)", "table": "(self)",
            "change": "(self, arcs)", "touched": None, "again": "(self)", "moved": "(self)", "told": "(self, begins, ends)",
            "between": "(self, source, target)", "twin": "(self)", "__call__": "(self, source, target)",
            "__len__": "(self)", "__bool__": "(self)", "__repr__": "(self)",
        },
    },
    "hubs": {
        "Hubs": {
            "__init__": "(self, outward, inward)", "outward": "(self, road)", "inward": "(self, road)",
            "shared": "(self, source, target)", "without": "(self, road, hub, side)", "__eq__": "(self, other)",
            "__repr__": "(self)",
        },
    },
    "cells": {
        "Cells": {
            **BAG, "__init__": "(self, levels)", "roads": "(self)", "cells": "(self)", "lot": "(self, cell)",
            "cell_of": "(self, road, level)", "apart": "(self, source, target)",
        },
    },
    "yards": {
        "Yard": {
            "__init__": "(self, net, cells, *, workers=3)", "net_now": "(self)", "waits": None, "stamp": "(self, cell)",
            "is_fresh": "(self, cell)", "table": "(self, cell)", "change": "(self, arcs)",
            "take": "(self, worker, cell=None)", "finish": "(self, worker)", "fall": "(self, worker)",
            "job": "(self, worker)", "between": "(self, source, target)", "twin": "(self)", "__len__": "(self)",
            "__bool__": "(self)", "__repr__": "(self)",
        },
    },
    "closings": {"ClosingPaper": {"__init__": "(self, cut, ways)", "cut": "(self)", "ways": "(self)"}},
    "opentables": {
        "OpenTable": {
            **BAG, "__init__": "(self, doubts, value)", "doubts": "(self)", "rows": "(self)",
            "reading": "(self, *, fees=None, shut=())", "point": "(self, row)", "part": "(self, other)",
            "breaking": "(self, *, fees=None)", "useless": "(self)", "limit": "(self, road, *, fees=None, shut=())",
            "__iter__": "(self)",
        },
    },
    "dialpapers": {
        "Span": {
            "__init__": "(self, low, high, way, low_marks, high_marks)", "marks_low": "(self)", "marks_high": "(self)",
        },
        "DialPaper": {"__init__": "(self, spans)", "spans": "(self)", "__len__": "(self)", "__bool__": "(self)"},
    },
    "house": {
        "House": {
            **BAG, "__init__": "(self, chart, *, order=None)", "chart_now": "(self)", "plan_now": "(self)",
            "cells_now": "(self)", "version": None, "work": None, "do": "(self, *edits)", "undo": "(self)",
            "redo": "(self)", "history": "(self)", "use": "(self, plan)", "use_cells": "(self, cells)",
            "ask": "(self, start, goal, *, measure, wheel='car', by='plan', paper=False)",
            "table": "(self, *, measure, wheel='car')", "fees_table": "(self, start, goal, *, wish, wheel='car')",
            "tried": "(self, *edits, start, goal, measure, wheel='car')", "twin": "(self)",
            "__call__": "(self, start, goal)",
        },
    },
    "trials": {
        "Trial": {
            "__init__": "(self, house)", "keep": "(self)", "__enter__": "(self)", "__exit__": "(self, kind, value, trace)",
        },
    },
}


def tree_of(module):
    """The tree of a file of the package."""
    return ast.parse((FOLDER / (module + ".py")).read_text(encoding="utf-8"))


class Interface(TestCase):
    def test_functions(self):
        for module, functions in FUNCTIONS.items():
            defined = {node.name for node in tree_of(module).body if isinstance(node, ast.FunctionDef)}
            for name, told in functions.items():
                self.assertIn(name, defined, module)
                self.assertEqual(str(signature(getattr(import_module("feeblind." + module), name))), told, name)

    def test_generators(self):
        for module, names in GENERATORS.items():
            for name in names:
                self.assertTrue(isgeneratorfunction(getattr(import_module("feeblind." + module), name)), name)

    def test_static_methods(self):
        for module, classes in CLASSES.items():
            for name, methods in classes.items():
                if "read" in methods:
                    self.assertIsInstance(vars(getattr(import_module("feeblind." + module), name))["read"], staticmethod)

    def test_classes(self):
        for module, classes in CLASSES.items():
            defined = {node.name: node for node in tree_of(module).body if isinstance(node, ast.ClassDef)}
            for name, methods in classes.items():
                self.assertIn(name, defined, module)
                bodies = {part.name for part in defined[name].body if isinstance(part, ast.FunctionDef)}
                self.assertLessEqual(set(methods), bodies, name)

    def test_methods(self):
        for module, classes in CLASSES.items():
            for name, methods in classes.items():
                made = getattr(import_module("feeblind." + module), name)
                for method, told in methods.items():
                    if told is None:
                        self.assertIsInstance(vars(made)[method], property)
                    else:
                        self.assertEqual(str(signature(getattr(made, method))), told, (name, method))


if __name__ == "__main__":
    main()

"""[9]: a stranger's measure."""

from copy import deepcopy
from itertools import product
from unittest import TestCase, main

from feeblind.errors import BadMeasure, BadTable
from feeblind.measures import Measure, Price
from feeblind.told import Told
from tests.oracles import ODD
from tests.samples import capped

NAMES = ["o", "wl", "ns"]
BEST = [["o", "o", "o"], ["o", "wl", "wl"], ["ns", "wl", "ns"]]
THEN = [["o", "wl", "ns"], ["wl", "ns", "o"], ["ns", "ns", "ns"]]


class Made(TestCase):
    def wrong(self, *values):
        with self.assertRaises((BadMeasure, BadTable)) as caught:
            Told(*values)
        error = caught.exception
        return (error.code, error.at if error.code == "BadTable" else error.what)

    def test_wrong_names(self):
        wrong = [value for value in ODD if value not in (["a"], ["a", "b"], ("a",), ("a", "b"))]
        wrong += [["a", "a"], ["a", "b", "a"], list("abcdefg"), ["abcdefghi"], ["a", ""], ["A"], ["a", None], "ab", {"a": "a"}]
        for names in wrong:
            self.assertEqual(self.wrong(names, None, None, None), ("BadMeasure", "names"), names)

    def test_one_name_and_six(self):
        self.assertEqual(Told(["a"], [["a"]], [["a"]], "a").names(), ["a"])
        self.assertEqual(capped(list("abcdef")).names(), list("abcdef"))
        self.assertEqual(self.wrong([], [], [], "a"), ("BadMeasure", "names"))
        many = list("abcdefg")
        self.assertEqual(self.wrong(many, [many] * 7, [many] * 7, "a"), ("BadMeasure", "names"))

    def test_wrong_tables(self):
        wrong = ODD + [
            BEST[:2], BEST + [BEST[0]], [row[:2] for row in BEST], [row + ["o"] for row in BEST], [BEST[0], BEST[1], "ons"],
            [BEST[0], BEST[1], ["o", "wl", "xy"]], [BEST[0], BEST[1], ["o", "wl", None]], [BEST[0], BEST[1], ["o", "wl", 1]],
            [BEST[0], BEST[1], ["o", "wl", ["ns"]]], [BEST[0], BEST[1], ["o", "wl", True]], [BEST[0], BEST[1], None],
            [BEST[0], BEST[1], {"o": 1, "wl": 2, "ns": 3}], {0: BEST[0], 1: BEST[1], 2: BEST[2]}, [BEST[0], BEST[1], ["o", "wl"]],
        ]
        for table in wrong:
            self.assertEqual(self.wrong(NAMES, table, THEN, "o"), ("BadTable", "best"), table)
            self.assertEqual(self.wrong(NAMES, BEST, table, "o"), ("BadTable", "then"), table)

    def test_strings_are_no_rows(self):
        self.assertEqual(self.wrong(["a", "b"], ["ab", "ab"], [["a", "b"]] * 2, "a"), ("BadTable", "best"))
        self.assertEqual(self.wrong(["a"], "a", [["a"]], "a"), ("BadTable", "best"))

    def test_wrong_stay(self):
        for stay in ODD + ["wls", "O", ["o"], ("o",)]:
            self.assertEqual(self.wrong(NAMES, BEST, THEN, stay), ("BadMeasure", "stay"))

    def test_first_error_counts(self):
        self.assertEqual(self.wrong(None, None, None, None), ("BadMeasure", "names"))
        self.assertEqual(self.wrong(NAMES, None, None, None), ("BadTable", "best"))
        self.assertEqual(self.wrong(NAMES, BEST, None, None), ("BadTable", "then"))
        self.assertEqual(self.wrong(NAMES, BEST, THEN, None), ("BadMeasure", "stay"))

    def test_tuples_may_be_passed(self):
        table = tuple(tuple(row) for row in BEST)
        told = Told(tuple(NAMES), table, (list(THEN[0]), tuple(THEN[1]), THEN[2]), "wl")
        self.assertEqual(told, Told(NAMES, BEST, THEN, "wl"))
        self.assertEqual((told.names(), told.tables()), (NAMES, (BEST, THEN)))

    def test_by_name(self):
        self.assertEqual(Told(stay="ns", then=THEN, best=BEST, names=NAMES).stay, "ns")

    def test_what_is_passed_is_unchanged(self):
        passed = [NAMES, BEST, THEN]
        before = deepcopy(passed)
        told = Told(*passed, "o")
        told.tables()
        self.assertEqual(passed, before)


class Kept(TestCase):
    def test_what_was_passed_may_be_changed_afterwards(self):
        names, best, then = deepcopy([NAMES, BEST, THEN])
        told = Told(names, best, then, "o")
        names[0] = "x"
        names.append("y")
        best[0][0] = "ns"
        best.pop()
        then[1].clear()
        self.assertEqual((told.names(), told.tables()), (NAMES, (BEST, THEN)))
        self.assertEqual(told.best("o", "o"), "o")

    def test_what_is_told_may_be_changed(self):
        told = Told(NAMES, BEST, THEN, "o")
        told.names().pop()
        best, then = told.tables()
        best[0][0] = "ns"
        best.pop()
        then[1].clear()
        self.assertEqual((told.names(), told.tables()), (NAMES, (BEST, THEN)))
        self.assertEqual((told.best("o", "o"), told.then("wl", "wl")), ("o", "ns"))

    def test_kinds(self):
        tables = Told(tuple(NAMES), tuple(BEST), tuple(THEN), "o").tables()
        self.assertIs(type(tables), tuple)
        self.assertEqual({type(table) for table in tables} | {type(row) for table in tables for row in table}, {list})
        self.assertIs(type(Told(tuple(NAMES), BEST, THEN, "o").names()), list)


class Used(TestCase):
    def test_best_and_then_are_read_off_the_tables(self):
        told = Told(NAMES, BEST, THEN, "o")
        for (i, one), (j, other) in product(enumerate(NAMES), repeat=2):
            self.assertEqual(told.best(one, other), BEST[i][j])
            self.assertEqual(told.then(one, other), THEN[i][j])

    def test_None(self):
        told = Told(NAMES, BEST, THEN, "o")
        for name in NAMES:
            self.assertEqual((told.best(None, name), told.best(name, None)), (name, name))
            self.assertEqual((told.then(None, name), told.then(name, None)), (None, None))
        self.assertEqual((told.best(None, None), told.then(None, None)), (None, None))

    def test_no_worse_of_tables_that_break_the_order(self):
        told = Told(NAMES, BEST, THEN, "o")
        self.assertEqual([told.no_worse("o", "ns"), told.no_worse("ns", "o"), told.no_worse("ns", "wl")], [True, True, False])
        self.assertEqual([told.no_worse("ns", None), told.no_worse(None, "ns")], [True, False])
        self.assertIs(told.no_worse(None, None), True)

    def test_no_worse_than_itself_is_read_off_the_table_too(self):
        told = Told(["a", "b"], [["b", "b"], ["b", "b"]], [["a", "a"], ["a", "a"]], "a")
        self.assertEqual([told.no_worse("a", "a"), told.no_worse("b", "b")], [False, True])

    def test_values(self):
        told = Told(NAMES, BEST, THEN, "o")
        for value in NAMES:
            self.assertIs(told.is_value(value), True)
        for value in ODD + ["", "w", "wls", "O", "ons", ["o"], ("o",), ("o", "wl", "ns"), NAMES]:
            self.assertIs(told.is_value(value), False, value)

    def test_stay(self):
        for stay in NAMES:
            self.assertEqual(Told(NAMES, BEST, THEN, stay).stay, stay)

    def test_equal(self):
        told = Told(NAMES, BEST, THEN, "o")
        self.assertEqual(told, Told(list(NAMES), deepcopy(BEST), deepcopy(THEN), "o"))
        for other in (
            Told(NAMES, THEN, THEN, "o"), Told(NAMES, BEST, BEST, "o"), Told(NAMES, BEST, THEN, "wl"), Price("o"), NAMES,
            Told(NAMES[::-1], BEST, THEN, "o"), Told(["o"], [["o"]], [["o"]], "o"),
        ):
            self.assertIs(told == other, False)

    def test_repr(self):
        self.assertEqual(repr(Told(["a", "b"], [["a", "b"]] * 2, [["a", "b"]] * 2, "b")), "Told(a, b)")
        self.assertEqual(repr(Told(["a"], [["a"]], [["a"]], "a")), "Told(a)")
        self.assertEqual(Told.__bases__, (Measure,))


if __name__ == "__main__":
    main()

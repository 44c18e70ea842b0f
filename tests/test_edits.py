"""Edits of charts and their opposites ([5])."""

from random import Random
from unittest import TestCase, main

from feeblind.charts import Chart
from feeblind.edits import check_edits, edited, opposite
from feeblind.errors import BadEdit, NoTurn, OtherEnds, TakenName, TooMany, UnknownName
from feeblind.roads import Road, Rule
from tests.charting import some_charts, some_road, some_rule
from tests.oracles import ODD

AB, BC, CA = Road("ab", "a", "b"), Road("bc", "b", "c"), Road("ca", "c", "a")
WIDE = Road("ab", "a", "b", width=7)
RULES = [Rule("ab", "bc", ticks=1), Rule("bc", "ca", ticks=2), Rule("ca", "ab", ticks=3)]
NO_EDITS = ODD + [
    ("add",), ("add", "ab"), ("add", None), ("add", RULES[0]), ("add", AB, AB), ["add", AB], ("add", [AB]), ("adds", AB),
    ("drop",), ("drop", "ab", "bc"), ["drop", "ab"], ("Drop", "ab"), ("fees",), ("fees", "ab"), ("fees", RULES[0]),
    ("fees", AB, AB), ["fees", AB], ("rule",), ("rule", AB), ("rule", "ab", "bc"), ("rule", RULES[0], None), ("rule", None),
    ["rule", RULES[0]], ("free",), ("free", "ab"), ("free", ("ab", "bc")), ("free", "ab", "bc", "ca"), ["free", "ab", "bc"],
    (AB, "add"), (None, "ab"), (True, AB), (0, "ab", "bc"), (("add",), AB), (b"drop", "ab"), AB, RULES[0], "drop", ("ab",),
]


class Kinds(TestCase):
    def setUp(self):
        self.chart = Chart([AB, BC, CA], RULES)

    def test_no_edits(self):
        for value in NO_EDITS:
            for call in (lambda: check_edits([value]), lambda: edited(self.chart, value), lambda: opposite(self.chart, value)):
                with self.assertRaises(BadEdit, msg=repr(value)) as caught:
                    call()
                self.assertEqual(caught.exception.at, 0)
                self.assertNotIsInstance(caught.exception.at, bool)

    def test_the_first_one_counts(self):
        good = [("add", AB), ("drop", None), ("fees", AB), ("rule", RULES[0]), ("free", 1, [])]
        self.assertIsNone(check_edits(good))
        self.assertIsNone(check_edits(tuple(good)))
        self.assertIsNone(check_edits([]))
        self.assertIsNone(check_edits(edits=good))
        for value in NO_EDITS:
            with self.assertRaises(BadEdit) as caught:
                check_edits(good + [value, None])
            self.assertEqual(caught.exception.at, 5)

    def test_names_of_edits_may_be_any_value(self):
        for value in ODD:
            self.assertIsNone(check_edits([("drop", value), ("free", value, "ab"), ("free", value, value)]))


class Deeds(TestCase):
    def setUp(self):
        self.chart = Chart([AB, BC, CA], RULES)

    def both(self, edit, wanted, back):
        """An edit gives the chart that is wanted, and its opposite leads back."""
        before = self.chart.text()
        told = opposite(self.chart, edit)
        self.assertEqual(told, back)
        self.assertIsInstance(told, list)
        after = edited(self.chart, edit)
        self.assertEqual(after, wanted)
        for step in told:
            after = edited(after, step)
        self.assertEqual([after, after.text()], [self.chart, before])
        self.assertEqual(self.chart.text(), before)

    def test_add(self):
        road = Road("cd", "c", "d", ticks=3)
        self.both(("add", road), Chart([AB, BC, CA, road], RULES), [("drop", "cd")])

    def test_drop(self):
        back = [("add", AB), ("rule", RULES[0]), ("rule", RULES[2])]
        self.both(("drop", "ab"), Chart([BC, CA], [RULES[1]]), back)
        self.chart = Chart([AB, BC, CA])
        self.both(("drop", "ab"), Chart([BC, CA]), [("add", AB)])

    def test_drop_of_a_road_between_two_rules_told_in_order(self):
        roads = [Road("m", "m", "m"), Road("a", "m", "m"), Road("z", "m", "m")]
        rules = [Rule(u, v, ticks=1) for u in "amz" for v in "amz" if u != v]
        self.chart = Chart(roads, rules[::-1])
        back = [("add", roads[0])] + [("rule", Rule(*pair, ticks=1)) for pair in ("am", "ma", "mz", "zm")]
        left = [Rule("a", "z", ticks=1), Rule("z", "a", ticks=1)]
        self.both(("drop", "m"), Chart(roads[1:], left), back)

    def test_fees(self):
        self.both(("fees", WIDE), Chart([WIDE, BC, CA], RULES), [("fees", AB)])
        self.both(("fees", AB), self.chart, [("fees", AB)])

    def test_rule(self):
        new = Rule("ab", "bc", wheels=[])
        self.both(("rule", new), Chart([AB, BC, CA], [new] + RULES[1:]), [("rule", RULES[0])])
        self.both(("rule", Rule("ab", "bc")), Chart([AB, BC, CA], RULES[1:]), [("rule", RULES[0])])
        self.chart = Chart([AB, BC, CA], RULES[1:])
        self.both(("rule", new), Chart([AB, BC, CA], [new] + RULES[1:]), [("free", "ab", "bc")])
        self.both(("rule", Rule("ab", "bc")), self.chart, [("free", "ab", "bc")])

    def test_free(self):
        self.both(("free", "ab", "bc"), Chart([AB, BC, CA], RULES[1:]), [("rule", RULES[0])])
        self.chart = Chart([AB, BC, CA], RULES[1:])
        self.both(("free", "ab", "bc"), self.chart, [("free", "ab", "bc")])

    def test_by_name(self):
        self.assertEqual(edited(chart=self.chart, edit=("drop", "ab")), edited(self.chart, ("drop", "ab")))
        self.assertEqual(opposite(chart=self.chart, edit=("fees", WIDE)), [("fees", AB)])

    def test_what_is_told_may_be_changed(self):
        opposite(self.chart, ("drop", "ab")).clear()
        self.assertEqual(len(opposite(self.chart, ("drop", "ab"))), 3)


class Errors(TestCase):
    def setUp(self):
        self.chart = Chart([AB, BC, CA], RULES)

    def refused(self, edit, kind, **values):
        before = self.chart.text()
        for call in (edited, opposite):
            with self.assertRaises(kind, msg=repr(edit)) as caught:
                call(self.chart, edit)
            for name, value in values.items():
                self.assertEqual(getattr(caught.exception, name), value)
            self.assertEqual(self.chart.text(), before)

    def test_add(self):
        self.refused(("add", AB), TakenName, name="ab")
        self.refused(("add", Road("ab", "x", "y")), TakenName, name="ab")

    def test_add_too_many_roads(self):
        names = ["x" + one + two for one in "abcdefghijkl" for two in "abcdefghij"]
        self.chart = Chart([Road(name, "a", "b") for name in names])
        self.refused(("add", Road("y", "p", "q")), TooMany, what="roads", count=121)
        self.refused(("add", Road("y", "b", "a")), TooMany, what="roads", count=121)
        self.refused(("add", Road("xaa", "b", "a")), TakenName, name="xaa")

    def test_add_too_many_turns(self):
        names = ["x" + one + two for one in "abcde" for two in "abcde"]
        self.chart = Chart([Road(name, "a", "a") for name in names])
        self.assertEqual(len(self.chart.turns()), 600)
        self.refused(("add", Road("y", "a", "b")), TooMany, what="turns", count=625)
        self.assertEqual(len(edited(self.chart, ("add", Road("y", "b", "b")))), 26)

    def test_drop(self):
        for value in ODD + [AB, ("ab",)]:
            self.refused(("drop", value), UnknownName, name=value)

    def test_fees(self):
        self.refused(("fees", Road("x", "a", "b")), UnknownName, name="x")
        for road in (Road("ab", "a", "c"), Road("ab", "c", "b"), Road("ab", "b", "a")):
            self.refused(("fees", road), OtherEnds, name="ab")

    def test_rule_and_free(self):
        for source, target in (("ab", "ca"), ("ab", "x"), ("x", "ab"), ("x", "y")):
            self.refused(("rule", Rule(source, target)), NoTurn, source=source, target=target)
            self.refused(("rule", Rule(source, target, ticks=1)), NoTurn, source=source, target=target)
        for value in ODD + [AB]:
            self.refused(("free", value, "bc"), NoTurn, source=value, target="bc")
            self.refused(("free", "ab", value), NoTurn, source="ab", target=value)
            self.refused(("free", value, value), NoTurn, source=value, target=value)


class Many(TestCase):
    def some_edit(self, random, chart):
        """Some edit of a chart."""
        names, turns = chart.names(), chart.turns()
        word = random.choice(["add", "drop", "fees", "rule", "free"])
        if word == "add" or not names:
            name = random.choice([one + other for one in "mnop" for other in "mnop"])
            return ("add", some_road(random, name, random.choice("abcd"), random.choice("abcd")))
        old = chart.road_named(random.choice(names))
        if word == "drop":
            return ("drop", old.name)
        if word == "fees" or not turns:
            return ("fees", some_road(random, old.name, old.tail, old.head))
        turn = random.choice(turns)
        return ("rule", some_rule(random, *turn)) if word == "rule" else ("free", *turn)

    def test_back_and_forth(self):
        random = Random(5)
        for chart in some_charts(6, 60):
            for _ in range(6):
                edit = self.some_edit(random, chart)
                if edit[0] == "add" and edit[1].name in chart:
                    continue
                back, behind = opposite(chart, edit), edited(chart, edit)
                self.assertEqual(behind, edited(chart, edit))
                self.assertEqual(Chart.read(behind.text()), behind)
                again = behind
                for step in back:
                    again = edited(again, step)
                self.assertEqual([again, again.text()], [chart, chart.text()])
                chart = behind


if __name__ == "__main__":
    main()

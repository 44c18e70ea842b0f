"""Charts ([3], [4]) and what the interface lists for them."""

from unittest import TestCase, main

from feeblind.charts import Chart
from feeblind.errors import DoubleRule, NoTurn, TakenName, TooMany, UnknownName
from feeblind.roads import Road, Rule
from tests.charting import EXAMPLE, some_charts, turns_by_hand
from tests.oracles import ODD

LETTERS = "abcdefghij"


def many_roads(many, tail="a", head="b"):
    """So many roads from one place to another one."""
    names = [one + two + three for one in "abc" for two in LETTERS for three in LETTERS]
    return [Road(name, tail, head) for name in names[:many]]


class Empty(TestCase):
    def test_a_chart_without_roads(self):
        for chart in (Chart(), Chart([], []), Chart((), ()), Chart(roads=[], rules=[]), Chart.read("end\n")):
            self.assertEqual([chart.roads(), chart.names(), chart.places(), chart.turns(), chart.rules()], [[]] * 5)
            self.assertEqual([chart.leaving("a"), chart.arriving("a"), list(chart), len(chart)], [[], [], [], 0])
            self.assertEqual([chart.text(), repr(chart), bool(chart)], ["end\n", "Chart(0 roads)", True])
            self.assertEqual(chart, Chart())


class Plain(TestCase):
    def setUp(self):
        self.roads = [
            Road("bc", "b", "c"), Road("ab", "a", "b"), Road("aa", "a", "a"), Road("ba", "b", "a"), Road("xy", "x", "y"),
        ]
        self.rules = [Rule("bc", "xy"), Rule("ab", "bc", ticks=2), Rule("aa", "ab", wheels=[])][1:]
        self.chart = Chart(self.roads, self.rules)

    def test_roads(self):
        self.assertEqual(self.chart.names(), ["aa", "ab", "ba", "bc", "xy"])
        self.assertEqual([road.name for road in self.chart.roads()], self.chart.names())
        self.assertEqual([road.name for road in self.chart], self.chart.names())
        self.assertEqual(self.chart.road_named("bc"), Road("bc", "b", "c"))
        self.assertEqual([len(self.chart), repr(self.chart)], [5, "Chart(5 roads)"])
        self.assertEqual(repr(Chart([Road("a", "a", "a")])), "Chart(1 roads)")

    def test_places(self):
        self.assertEqual(self.chart.places(), ["a", "b", "c", "x", "y"])
        self.assertEqual(self.chart.leaving("a"), ["aa", "ab"])
        self.assertEqual(self.chart.arriving("a"), ["aa", "ba"])
        self.assertEqual([self.chart.leaving("c"), self.chart.arriving("x")], [[], []])
        self.assertEqual(self.chart.leaving(place="b"), ["ba", "bc"])
        self.assertEqual(self.chart.arriving(place="b"), ["ab"])

    def test_turns(self):
        wanted = [("aa", "ab"), ("ab", "ba"), ("ab", "bc"), ("ba", "aa"), ("ba", "ab")]
        self.assertEqual(self.chart.turns(), wanted)

    def test_roads_that_are_turns_both_ways_and_roads_from_a_place_to_itself(self):
        self.assertEqual(Chart([Road("ab", "a", "b"), Road("ba", "b", "a")]).turns(), [("ab", "ba"), ("ba", "ab")])
        self.assertEqual(Chart([Road("aa", "a", "a")]).turns(), [])
        self.assertEqual(Chart([Road("aa", "a", "a"), Road("b", "a", "a")]).turns(), [("aa", "b"), ("b", "aa")])

    def test_wheels_rules_and_windows_take_no_turn_away(self):
        roads = [Road("ab", "a", "b", wheels=[]), Road("bc", "b", "c", windows=[])]
        self.assertEqual(Chart(roads, [Rule("ab", "bc", wheels=[])]).turns(), [("ab", "bc")])

    def test_rules(self):
        self.assertEqual(self.chart.rules(), [Rule("aa", "ab", wheels=[]), Rule("ab", "bc", ticks=2)])
        self.assertEqual(self.chart.rule("ab", "bc"), Rule("ab", "bc", ticks=2))
        self.assertEqual(self.chart.rule(source="aa", target="ab"), Rule("aa", "ab", wheels=[]))
        self.assertIsNone(self.chart.rule("ab", "ba"))

    def test_empty_rules_are_not_kept(self):
        chart = Chart(self.roads, self.rules + [Rule("ab", "ba"), Rule("ba", "aa", prices={"cost": 0})])
        self.assertEqual(chart.rules(), self.chart.rules())
        self.assertEqual(chart, self.chart)
        self.assertIsNone(chart.rule("ab", "ba"))
        self.assertEqual(chart.text(), self.chart.text())

    def test_equality(self):
        self.assertEqual(self.chart, Chart(self.roads[::-1], self.rules[::-1]))
        self.assertEqual(self.chart, Chart(tuple(self.roads), tuple(self.rules)))
        for other in (
            Chart(self.roads), Chart(self.roads[:-1], self.rules), Chart(self.roads, self.rules[:1]),
            Chart(self.roads[:-1] + [Road("xy", "x", "z")], self.rules),
            Chart(self.roads[:-1] + [Road("xy", "x", "y", width=2)], self.rules),
            Chart(self.roads, [Rule("ab", "bc", ticks=3), Rule("aa", "ab", wheels=[])]),
            Chart(self.roads, [Rule("ab", "ba", ticks=2), Rule("aa", "ab", wheels=[])]),
            self.chart.text(), self.chart.roads(), None,
        ):
            self.assertNotEqual(self.chart, other)

    def test_in(self):
        for value in ODD:
            self.assertIs(value in self.chart, False, repr(value))
        for name in self.chart.names():
            self.assertIs(name in self.chart, True)
        self.assertIs(self.chart.roads()[0] in self.chart, False)

    def test_unknown_names(self):
        for value in ODD + [("aa",), self.chart.roads()[0]]:
            with self.assertRaises(UnknownName) as caught:
                self.chart.road_named(value)
            self.assertIs(caught.exception.name, value)

    def test_no_turns(self):
        for value in ODD + ["aa"]:
            for pair in ((value, "ab"), ("ba", value), (value, value)):
                if pair in (("aa", "ab"), ("ba", "aa")):
                    continue
                with self.assertRaises(NoTurn) as caught:
                    self.chart.rule(*pair)
                self.assertIs(caught.exception.source, pair[0])
                self.assertIs(caught.exception.target, pair[1])

    def test_places_that_are_none(self):
        for value in ODD:
            if value != "a":
                self.assertEqual(self.chart.leaving(value), [])
                self.assertEqual(self.chart.arriving(value), [])

    def test_lists_that_are_passed_or_told_may_be_changed(self):
        before = self.chart.text()
        for told in (self.roads, self.rules, self.chart.roads(), self.chart.rules(), self.chart.names(),
                     self.chart.places(), self.chart.turns(), self.chart.leaving("a"), self.chart.arriving("a")):
            told.clear()
        self.assertEqual(self.chart.text(), before)
        self.assertEqual([len(self.chart.turns()), len(self.chart.places()), len(self.chart.names())], [5, 5, 5])
        self.assertEqual([self.chart.leaving("a"), self.chart.arriving("a")], [["aa", "ab"], ["aa", "ba"]])
        self.assertEqual(list(self.chart), self.chart.roads())
        self.assertEqual(self.chart, Chart.read(before))


class Bounds(TestCase):
    def test_class_values(self):
        self.assertEqual([Chart.ROADS, Chart.TURNS], [120, 600])

    def test_roads(self):
        self.assertEqual(len(Chart(many_roads(120))), 120)
        for many in (121, 130):
            with self.assertRaises(TooMany) as caught:
                Chart(many_roads(many))
            self.assertEqual([caught.exception.what, caught.exception.count], ["roads", many])

    def test_turns(self):
        # 24 roads into a place and 25 out of it make 600 turns.
        roads = many_roads(24) + [Road("b" * at, "b", "c") for at in range(1, 9)]
        roads += [Road("c" * at, "b", "c") for at in range(1, 9)] + [Road("d" * at, "b", "c") for at in range(1, 9)]
        roads.append(Road("e", "b", "c"))
        self.assertEqual(len(Chart(roads).turns()), 600)
        with self.assertRaises(TooMany) as caught:
            Chart(roads + [Road("f", "c", "x"), Road("g", "y", "a")])
        self.assertEqual([caught.exception.what, caught.exception.count], ["turns", 649])
        with self.assertRaises(TooMany) as caught:
            Chart(roads + [Road("f", "x", "y"), Road("g", "y", "x"), Road("h", "p", "x")])
        self.assertEqual([caught.exception.what, caught.exception.count], ["turns", 603])

    def test_601_turns(self):
        roads = many_roads(24) + [Road("x" + one + two, "b", "c") for one in "abcde" for two in "abcde"]
        self.assertEqual(len(Chart(roads).turns()), 600)
        with self.assertRaises(TooMany) as caught:
            Chart(roads + [Road("y", "y", "z"), Road("z", "z", "p")], [Rule("y", "p")])
        self.assertEqual([caught.exception.what, caught.exception.count], ["turns", 601])


class Errors(TestCase):
    def test_a_name_that_is_taken(self):
        roads = [Road("b", "a", "b"), Road("c", "a", "b"), Road("c", "x", "y"), Road("b", "a", "b")]
        with self.assertRaises(TakenName) as caught:
            Chart(roads + many_roads(200), [Rule("p", "q")])
        self.assertEqual(caught.exception.name, "c")

    def test_too_many_roads_ahead_of_too_many_turns(self):
        with self.assertRaises(TooMany) as caught:
            Chart(many_roads(121, "a", "a"), [Rule("p", "q")])
        self.assertEqual([caught.exception.what, caught.exception.count], ["roads", 121])
        with self.assertRaises(TooMany) as caught:
            Chart(many_roads(26, "a", "a"), [Rule("p", "q")])
        self.assertEqual([caught.exception.what, caught.exception.count], ["turns", 650])

    def test_rules_of_no_turns(self):
        roads = [Road("ab", "a", "b"), Road("bc", "b", "c")]
        good = Rule("ab", "bc", ticks=1)
        for source, target in (("bc", "ab"), ("ab", "x"), ("x", "ab"), ("x", "y")):
            for bad in (Rule(source, target, ticks=1), Rule(source, target)):
                with self.assertRaises(NoTurn) as caught:
                    Chart(roads, [good, good, bad, Rule("p", "q")])
                self.assertEqual([caught.exception.source, caught.exception.target], [source, target])

    def test_rules_that_come_twice(self):
        roads = [Road("ab", "a", "b"), Road("bc", "b", "c"), Road("ca", "c", "a")]
        one, other = Rule("ab", "bc", ticks=1), Rule("bc", "ca", ticks=1)
        for more in (one, Rule("ab", "bc"), Rule("ab", "bc", ticks=7)):
            with self.assertRaises(DoubleRule) as caught:
                Chart(roads, [one, other, more, other])
            self.assertEqual([caught.exception.source, caught.exception.target], ["ab", "bc"])
        with self.assertRaises(DoubleRule) as caught:
            Chart(roads, [Rule("ab", "bc"), other, Rule("bc", "ca"), Rule("ab", "bc")])
        self.assertEqual([caught.exception.source, caught.exception.target], ["bc", "ca"])


class Many(TestCase):
    def test_by_hand(self):
        for chart in some_charts(1, 40):
            roads = chart.roads()
            self.assertEqual(chart.turns(), turns_by_hand(roads))
            self.assertEqual(chart.places(), sorted({road.tail for road in roads} | {road.head for road in roads}))
            for place in "abcd":
                self.assertEqual(chart.leaving(place), [road.name for road in roads if road.tail == place])
                self.assertEqual(chart.arriving(place), [road.name for road in roads if road.head == place])
            rules = {(rule.source, rule.target): rule for rule in chart.rules()}
            self.assertEqual(list(rules), sorted(rules))
            self.assertFalse(any(rule.empty for rule in rules.values()))
            for turn in chart.turns():
                self.assertEqual(chart.rule(*turn), rules.get(turn))
            self.assertEqual(Chart(roads[::-1], chart.rules()[::-1]), chart)

    def test_equal_calls(self):
        one, other = Chart.read(EXAMPLE), Chart.read(EXAMPLE)
        self.assertEqual(one, other)
        self.assertEqual([one.roads(), one.turns(), one.text()], [other.roads(), other.turns(), other.text()])


if __name__ == "__main__":
    main()

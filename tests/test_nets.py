"""Values of roads and turns ([10]), and nets ([12])."""

from random import Random
from unittest import TestCase, main

from feeblind.charts import Chart
from feeblind.dials import Dial
from feeblind.errors import BadValue, NoTurn, UnknownName
from feeblind.hours import Hours
from feeblind.joint import First, Several
from feeblind.measures import Price, Width
from feeblind.nets import Net, arc_value, begins_at, ends_at, net_of, road_value
from feeblind.roads import Road, Rule
from feeblind.rows import Open, Trade
from feeblind.shapes import Shape, shape_of
from feeblind.told import Told
from tests.charting import EXAMPLE, chart_measures, some_charts, some_net, some_shape
from tests.oracles import ODD, bent, walked
from tests.samples import capped, samples

SHAPE = Shape("abc", [("a", "b"), ("b", "c"), ("c", "a"), ("b", "a")])
PRICE = Price("cost")


def value_by_hand(fees, measure, own):
    """The value of a road or a rule in a measure; own has what only one of them has."""
    if isinstance(measure, Price):
        return fees.price(measure.wish)
    if isinstance(measure, Trade):
        return (tuple(fees.price(wish) for wish in measure.wishes()),)
    if isinstance(measure, Open):
        return ((fees.price(measure.wish), own["lot"]),)
    if isinstance(measure, Dial):
        return ((fees.price(measure.wish), fees.price(measure.slope)),)
    times = [walked(measure.day, own["windows"], fees.ticks, t) for t in range(measure.day)]
    return None if None in times else tuple(times)


def road_by_hand(road, measure):
    """The value of a road, as [10] says."""
    if isinstance(measure, Width):
        return road.width
    if isinstance(measure, Told):
        return road.mark if road.mark in measure.names() else None
    if isinstance(measure, Several):
        items = tuple(road_by_hand(road, inner) for inner in measure.measures())
        return None if items == (None,) * len(items) else items
    if isinstance(measure, First):
        inner = road_by_hand(road, measure.inner)
        return None if inner is None else (road.price(measure.wish), inner)
    windows = road.windows()
    if windows is not None and isinstance(measure, Hours) and not any(first < measure.day for first, _ in windows):
        return None
    return value_by_hand(road, measure, {"lot": (road.name,) if road.doubtful else (), "windows": windows})


def arc_by_hand(rule, road, measure):
    """The arc value, as [10] says."""
    if isinstance(measure, (Width, Told)) or rule is None:
        return road_by_hand(road, measure)
    if isinstance(measure, Several):
        items = tuple(arc_by_hand(rule, road, inner) for inner in measure.measures())
        return None if items == (None,) * len(items) else items
    if isinstance(measure, First):
        inner = arc_by_hand(rule, road, measure.inner)
        return None if inner is None else (rule.price(measure.wish) + road.price(measure.wish), inner)
    turned = value_by_hand(rule, measure, {"lot": (), "windows": None})
    return measure.then(turned, road_by_hand(road, measure))


class Values(TestCase):
    def setUp(self):
        self.road = Road("ab", "a", "b", prices={"cost": 3, "toll": 2}, width=7, ticks=2, mark="two", windows=[(1, 2)], doubtful=True)
        self.bare = Road("bc", "b", "c")
        self.rule = Rule("xa", "ab", prices={"cost": 10, "time": 4}, ticks=3)

    def test_of_roads(self):
        for measure, wanted, bare in (
            (PRICE, 3, 0), (Price("time"), 0, 0), (Width(), 7, 1), (Trade("toll", "time", "cost"), ((2, 0, 3),), ((0, 0, 0),)),
            (Open("cost"), ((3, ("ab",)),), ((0, ()),)), (Dial("cost", "toll", 5), ((3, 2),), ((0, 0),)),
            (Hours(4), (3, 3, 7, 7), (1, 2, 3, 4)), (Hours(1), None, (1,)), (Hours(2), (3, 3), (1, 2)),
            (capped(["zero", "one", "two"]), "two", None), (capped(["zero", "one"]), None, None),
            (Several(PRICE, Width()), (3, 7), (0, 1)), (Several(Hours(1), PRICE), (None, 3), ((1,), 0)),
            (Several(Hours(1), capped(["a", "b"])), None, ((1,), None)), (First("toll", Width()), (2, 7), (0, 1)),
            (First("toll", Hours(1)), None, (0, (1,))), (First("toll", Hours(2)), (2, (3, 3)), (0, (1, 2))),
            (First("cost", Open("toll")), (3, ((2, ("ab",)),)), (0, ((0, ()),))),
        ):
            self.assertEqual(road_value(self.road, measure), wanted, measure)
            self.assertEqual(road_value(road=self.bare, measure=measure), bare, measure)

    def test_a_price_counts_whether_a_road_is_doubtful_or_not(self):
        for doubtful in (True, False):
            road = Road("ab", "a", "b", prices={"cost": 3}, doubtful=doubtful)
            self.assertEqual([road_value(road, PRICE), arc_value(None, road, PRICE)], [3, 3])

    def test_of_arcs(self):
        for measure, wanted in (
            (PRICE, 13), (Price("time"), 4), (Width(), 7), (Trade("toll", "time", "cost"), ((2, 4, 13),)),
            (Open("cost"), ((13, ("ab",)),)), (Dial("cost", "time", 5), ((13, 4),)), (Dial("time", "toll", 5), ((4, 2),)),
            (Hours(4), (7, 7, 7, 11)), (Hours(1), None), (capped(["zero", "one", "two"]), "two"), (capped(["zero", "one"]), None),
            (Several(PRICE, Width()), (13, 7)), (Several(Hours(1), PRICE), (None, 13)), (Several(Hours(1), capped(["a", "b"])), None),
            (First("cost", Width()), (13, 7)), (First("time", Hours(1)), None), (First("time", Hours(4)), (4, (7, 7, 7, 11))),
            (First("toll", Price("cost")), (2, 13)),
        ):
            self.assertEqual(arc_value(self.rule, self.road, measure), wanted, measure)
            self.assertEqual(arc_value(rule=None, road=self.road, measure=measure), road_value(self.road, measure), measure)

    def test_waiting_behind_a_turn(self):
        road = Road("ab", "a", "b", windows=[(2, 3)], ticks=0)
        self.assertEqual(arc_value(Rule("xa", "ab", ticks=1), road, Hours(4)), (2, 2, 6, 6))
        self.assertEqual(arc_value(Rule("xa", "ab"), road, Hours(4)), (2, 2, 2, 6))

    def test_wheels_mean_nothing(self):
        road = Road("ab", "a", "b", prices={"cost": 3}, wheels=[])
        self.assertEqual(road_value(road, PRICE), 3)
        self.assertEqual(arc_value(Rule("xa", "ab", prices={"cost": 1}, wheels=[]), road, PRICE), 4)

    def test_many(self):
        for chart in some_charts(10, 25):
            for measure in chart_measures():
                for road in chart:
                    value = road_value(road, measure)
                    self.assertEqual(value, road_by_hand(road, measure))
                    self.assertTrue(value is None or measure.is_value(value))
                for source, target in chart.turns():
                    rule, road = chart.rule(source, target), chart.road_named(target)
                    self.assertEqual(arc_value(rule, road, measure), arc_by_hand(rule, road, measure))
                    self.assertEqual(arc_value(None, road, measure), road_by_hand(road, measure))


class OfCharts(TestCase):
    def test_example(self):
        chart = Chart.read(EXAMPLE)
        net = net_of(chart, PRICE)
        self.assertEqual(net.entries(), {"ab": 3, "ac": 1, "bd": 2, "cb": 1, "cd": 5})
        self.assertEqual(net.arcs(), {("ab", "bd"): 2, ("ac", "cb"): 1, ("ac", "cd"): 5, ("cb", "bd"): 2})
        self.assertEqual([net.shape, net.measure], [shape_of(chart), PRICE])
        self.assertEqual(begins_at(chart, net, "a"), {"ab": 3, "ac": 1})
        self.assertEqual(ends_at(chart, "d"), ["bd", "cd"])

    def test_wheels(self):
        roads = [Road("ab", "a", "b", wheels=["car"]), Road("bc", "b", "c", wheels=["van"]), Road("ba", "b", "a")]
        chart = Chart(roads, [Rule("ab", "ba", wheels=["van"])])
        for wheel, entries, arcs in (
            ("car", {"ab": 1, "ba": 1}, {("ba", "ab"): 1}), ("van", {"ba": 1, "bc": 1}, {("ab", "ba"): 1, ("ab", "bc"): 1}),
            ("bus", {"ba": 1}, {}),
        ):
            net = net_of(chart=chart, measure=Width(), wheel=wheel)
            self.assertEqual([net.entries(), net.arcs()], [entries, arcs])
            self.assertEqual(net.shape, shape_of(chart))
        self.assertEqual(net_of(chart, Width()), net_of(chart, Width(), wheel="car"))
        with self.assertRaises(TypeError):
            net_of(chart, Width(), "car")

    def test_many(self):
        for chart in some_charts(11, 20):
            for measure in chart_measures():
                for wheel in ("car", "bus", "none"):
                    net = net_of(chart, measure, wheel=wheel)
                    entries = {road.name: road_by_hand(road, measure) for road in chart if road.lets(wheel)}
                    arcs = {}
                    for source, target in chart.turns():
                        rule, road = chart.rule(source, target), chart.road_named(target)
                        if road.lets(wheel) and (rule is None or rule.lets(wheel)):
                            arcs[(source, target)] = arc_by_hand(rule, road, measure)
                    self.assertEqual(net, Net(shape_of(chart), measure, entries, arcs))
                    for place in "abcd":
                        begins = begins_at(chart, net, place)
                        wanted = {road.name: entries.get(road.name) for road in chart if road.tail == place}
                        self.assertEqual(list(begins.items()), [(r, v) for r, v in sorted(wanted.items()) if v is not None])
                        self.assertEqual(ends_at(chart=chart, place=place), [road.name for road in chart if road.head == place])

    def test_begins_by_name(self):
        chart = Chart.read(EXAMPLE)
        net = net_of(chart, PRICE)
        self.assertEqual(begins_at(chart=chart, net=net.closed(["ab"]), place="a"), {"ac": 1})
        begins_at(chart, net, "a").clear()
        ends_at(chart, "d").clear()
        self.assertEqual([len(begins_at(chart, net, "a")), len(ends_at(chart, "d"))], [2, 2])


class Nets(TestCase):
    def setUp(self):
        self.entries = {"b": 3, "a": 0, "c": None}
        self.arcs = {("b", "c"): 2, ("a", "b"): 1, ("c", "a"): None}
        self.net = Net(SHAPE, PRICE, self.entries, self.arcs)

    def test_what_is_left_out_is_none(self):
        self.assertEqual([self.net.entry(road) for road in "abc"], [0, 3, None])
        self.assertEqual([self.net.arc(*turn) for turn in ("ab", "bc", "ca", "ba")], [1, 2, None, None])
        self.assertEqual([self.net.arc(source="a", target="c"), self.net.arc("a", "a"), self.net.entry(road="b")], [None, None, 3])
        self.assertEqual(list(self.net.entries().items()), [("a", 0), ("b", 3)])
        self.assertEqual(list(self.net.arcs().items()), [(("a", "b"), 1), (("b", "c"), 2)])
        self.assertEqual([self.net.shape, self.net.measure], [SHAPE, PRICE])

    def test_equality_and_repr(self):
        self.assertEqual(self.net, Net(shape=SHAPE, measure=PRICE, entries={"a": 0, "b": 3}, arcs={("a", "b"): 1, ("b", "c"): 2}))
        for other in (
            Net(SHAPE, PRICE, {"a": 0}, self.arcs), Net(SHAPE, PRICE, self.entries, {}), Net(SHAPE, Price("toll"), self.entries, self.arcs),
            Net(Shape("abcd", SHAPE.turns()), PRICE, self.entries, self.arcs), Net(SHAPE, PRICE, {"a": 1, "b": 3}, self.arcs),
            Net(SHAPE, PRICE, self.entries, {("a", "b"): 1, ("b", "c"): 3}), self.arcs, None, SHAPE,
        ):
            self.assertNotEqual(self.net, other)
        self.assertEqual(repr(self.net), "Net(Price(cost), 3 roads)")
        self.assertEqual(repr(Net(SHAPE, Width(), {}, {})), "Net(Width(), 3 roads)")
        self.assertEqual(repr(Net(Shape(["a"], []), Several(PRICE, Width()), {}, {})), "Net(Several(Price(cost), Width()), 1 roads)")

    def test_a_net_without_roads(self):
        net = Net(Shape([], []), PRICE, {}, {})
        self.assertEqual([net.entries(), net.arcs(), net.closed([]) == net, net.with_arcs({}) == net], [{}, {}, True, True])

    def test_with_arcs(self):
        other = self.net.with_arcs({("a", "b"): None, ("c", "a"): 7, ("b", "c"): 2})
        self.assertEqual(other, Net(SHAPE, PRICE, self.entries, {("b", "c"): 2, ("c", "a"): 7}))
        self.assertEqual(list(other.arcs()), [("b", "c"), ("c", "a")])
        self.assertEqual(other.with_arcs(arcs={("a", "b"): 1, ("c", "a"): None}), self.net)
        self.assertEqual(self.net.with_arcs({}), self.net)
        self.assertEqual(self.net.arc("a", "b"), 1)

    def test_closed(self):
        self.assertEqual(self.net.closed(["b"]), Net(SHAPE, PRICE, {"a": 0}, {("b", "c"): 2}))
        self.assertEqual(self.net.closed(roads=["c", "a", "c"]), Net(SHAPE, PRICE, {"b": 3}, {("a", "b"): 1}))
        self.assertEqual(self.net.closed([]), self.net)
        self.assertEqual(self.net.closed(("a", "b", "c")), Net(SHAPE, PRICE, {}, {}))
        self.assertEqual(self.net.entry("b"), 3)

    def test_dicts_may_be_changed(self):
        before = Net(SHAPE, PRICE, {"a": 0, "b": 3}, {("a", "b"): 1, ("b", "c"): 2})
        change = {("a", "b"): 5}
        other = self.net.with_arcs(change)
        for told in (self.entries, self.arcs, change, self.net.entries(), self.net.arcs(), other.entries(), other.arcs()):
            told.clear()
        self.assertEqual(self.net, before)
        self.assertEqual([other.arc("a", "b"), other.arc("b", "c"), other.entry("b")], [5, 2, 3])
        self.assertEqual([len(self.net.entries()), len(self.net.arcs())], [2, 2])


class Errors(TestCase):
    def refused(self, kind, entries, arcs, **values):
        calls = [lambda: Net(SHAPE, PRICE, entries, arcs)]
        if not entries:
            calls.append(lambda: Net(SHAPE, PRICE, {"a": 1}, {("a", "b"): 4}).with_arcs(arcs))
        for call in calls:
            with self.assertRaises(kind) as caught:
                call()
            for name, value in values.items():
                self.assertIs(getattr(caught.exception, name), value)

    def test_order(self):
        self.refused(UnknownName, {"a": "x", "z": 1, "e": 2}, {("x", "y"): -1}, name="e")
        self.refused(BadValue, {"b": "y", "c": "z", "a": 1}, {("x", "y"): -1}, value="y")
        self.refused(BadValue, {"c": "z", "b": "y", "a": None}, {}, value="y")
        self.refused(NoTurn, {}, {("x", "y"): -1, ("b", "b"): 0, ("a", "b"): "z"}, source="b", target="b")
        self.refused(NoTurn, {}, {("c", "b"): 1, ("a", "b"): 0, ("b", "c"): 1}, source="c", target="b")
        self.refused(NoTurn, {}, {("a", "x"): 1, ("x", "a"): 0}, source="a", target="x")
        self.refused(BadValue, {}, {("c", "a"): "z", ("b", "c"): "y", ("a", "b"): 1}, value="y")

    def test_values(self):
        for measure, values in samples():
            if "96" in repr(measure):
                continue
            wrong = ODD + [worse for value in values[:4] for worse in bent(value)]
            for value in wrong:
                if value is None or measure.is_value(value):
                    Net(SHAPE, measure, {"a": value}, {("a", "b"): value})
                    continue
                with self.assertRaises(BadValue) as caught:
                    Net(SHAPE, measure, {"b": value, "c": True, "a": values[0]}, {})
                self.assertIs(caught.exception.value, value)
                with self.assertRaises(BadValue) as caught:
                    Net(SHAPE, measure, {}, {("b", "c"): value, ("c", "a"): True, ("a", "b"): None})
                self.assertIs(caught.exception.value, value)

    def test_nothing_changes(self):
        net = Net(SHAPE, PRICE, {}, {("a", "b"): 4})
        for arcs in ({("a", "b"): 5, ("b", "c"): -1}, {("a", "b"): 5, ("c", "b"): 1}):
            with self.assertRaises((BadValue, NoTurn)):
                net.with_arcs(arcs)
            self.assertEqual(net, Net(SHAPE, PRICE, {}, {("a", "b"): 4}))


class Many(TestCase):
    def test_closed_and_with_arcs(self):
        random = Random(12)
        for measure, values in samples():
            shape = some_shape(random, 5)
            net = some_net(random, shape, measure, values)
            for _ in range(3):
                chosen = random.sample(shape.roads(), random.randint(0, len(shape)))
                entries = {road: value for road, value in net.entries().items() if road not in chosen}
                arcs = {turn: value for turn, value in net.arcs().items() if turn[1] not in chosen}
                self.assertEqual(net.closed(chosen), Net(shape, measure, entries, arcs))
                change = {turn: random.choice(values + [None]) for turn in random.sample(shape.turns(), len(shape.turns()) // 2)}
                self.assertEqual(net.with_arcs(change), Net(shape, measure, net.entries(), {**net.arcs(), **change}))


if __name__ == "__main__":
    main()

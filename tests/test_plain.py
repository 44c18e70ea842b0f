"""Worths, the plain meaning, and rounds ([13], [14], [15]), with [7] and [8] as far as they rest on them."""

from random import Random
from unittest import TestCase, main

from feeblind.charts import Chart
from feeblind.measures import Price, Width
from feeblind.nets import Net, begins_at, ends_at, net_of
from feeblind.plain import answering, next_round, plain_answer, plain_between, rounds, worth, worth_from
from feeblind.roads import Road
from feeblind.rows import Open, Trade
from feeblind.sentences import judge_measure
from feeblind.shapes import Shape, cut_rings, shape_of
from feeblind.told import Told
from tests.charting import (
    EXAMPLE, Ways, bad_told, chart_measures, folded, joined, plain_between_by_hand, plain_by_hand, small_samples, some_charts,
    some_net, some_question, some_shape, worth_by_hand,
)
from tests.samples import several_samples

PRICE = Price("cost")
SHAPE = Shape("abcd", [("a", "b"), ("b", "c"), ("a", "c"), ("c", "d"), ("c", "a"), ("d", "c")])
NET = Net(SHAPE, PRICE, {"a": 9}, {("a", "b"): 1, ("b", "c"): 2, ("a", "c"): 5, ("c", "d"): None, ("c", "a"): 0, ("d", "c"): 7})


class Worths(TestCase):
    def test_some(self):
        self.assertEqual([worth(NET, ("a",)), worth(NET, ("d",))], [0, 0])
        self.assertEqual([worth(NET, ("a", "b")), worth(NET, ("a", "b", "c", "a", "c"))], [1, 8])
        self.assertIsNone(worth(NET, ("a", "c", "d")))
        self.assertIsNone(worth(NET, ("a", "c", "d", "c")))
        self.assertEqual(worth(net=NET, way=("d", "c")), 7)

    def test_from_begins(self):
        self.assertEqual([worth_from(NET, 4, ("a",)), worth_from(NET, 4, ("a", "b", "c"))], [4, 7])
        self.assertIsNone(worth_from(NET, None, ("a",)))
        self.assertIsNone(worth_from(NET, None, ("a", "b")))
        self.assertIsNone(worth_from(NET, 4, ("c", "d")))
        self.assertEqual(worth_from(net=NET, begin=0, way=("d", "c")), 7)

    def test_is_joined_from_the_left_and_without_stay(self):
        # then takes the second of two different names, but for p before q; nothing is told of stay.
        then = [["o", "p", "q"], ["o", "p", "o"], ["q", "q", "q"]]
        measure = Told(["o", "p", "q"], [["o"] * 3] * 3, then, "o")
        net = Net(Shape("abcd", [("a", "b"), ("b", "c"), ("c", "d")]), measure, {}, {("a", "b"): "p", ("b", "c"): "q", ("c", "d"): "p"})
        self.assertEqual(worth(net, tuple("ab")), "p")
        self.assertEqual(worth(net, tuple("abcd")), measure.then(measure.then("p", "q"), "p"))
        self.assertEqual(worth_from(net, "q", tuple("abcd")), "q")
        self.assertEqual(worth_from(net, "p", tuple("ab")), "p")
        self.assertEqual(worth(net, ("a",)), "o")

    def test_many(self):
        random = Random(13)
        for measure, values in small_samples() + several_samples()[:3]:
            shape = some_shape(random, 4, 2)
            net = some_net(random, shape, measure, values)
            ways = Ways(shape)
            for source in shape.roads():
                for target in shape.roads():
                    for way in ways.between(source, target):
                        self.assertEqual(worth(net, way), worth_by_hand(net, way))
                        for begin in values[:3] + [None]:
                            self.assertEqual(worth_from(net, begin, way), worth_by_hand(net, way, begin))


class Questions(TestCase):
    def test_begins_and_ends(self):
        self.assertEqual(answering(NET, {"a": 1, "b": None}, ["c", "a", "c"]), [("a",), ("a", "b", "c"), ("a", "c")])
        self.assertEqual(answering(NET, {"c": 1, "a": 0}, ["a"]), [("a",), ("c", "a")])
        self.assertEqual(answering(net=NET, begins={"d": 3}, ends=("b",)), [("d", "c", "a", "b")])
        for begins, ends in (({}, ["a"]), ({"a": 1}, []), ({"a": None}, ["a"]), ({"b": 1}, []), ({}, [])):
            self.assertEqual([answering(NET, begins, ends), plain_answer(NET, begins, ends)], [[], None])

    def test_ways_with_arcs_that_are_none_answer(self):
        self.assertEqual(answering(NET, {"b": 1}, ["d"]), [("b", "c", "d")])
        self.assertIsNone(plain_answer(NET, {"b": 1}, ["d"]))

    def test_roads_that_are_begin_and_end_at_once(self):
        self.assertEqual(plain_answer(NET, {"a": 6, "b": 3}, ["a", "a", "b"]), 3)
        self.assertEqual(plain_answer(NET, {"a": 6, "b": None}, ["a", "b"]), 6)
        self.assertEqual(plain_answer(NET, {"a": 6}, ("a",)), 6)
        self.assertEqual(plain_answer(net=NET, begins={"a": 6, "d": 0}, ends=["c"]), 7)

    def test_between(self):
        self.assertEqual([plain_between(NET, "a", road) for road in "abcd"], [0, 1, 3, None])
        self.assertEqual(plain_between(net=NET, source="d", target="b"), 8)

    def test_closed_roads_are_left_out_of_the_begins_too(self):
        chart = Chart.read(EXAMPLE)
        net = net_of(chart, PRICE)
        begins, ends = begins_at(chart, net, "a"), ends_at(chart, "d")
        self.assertEqual(plain_answer(net, begins, ends), 4)
        closed = net.closed(["ac"])
        self.assertEqual(begins_at(chart, closed, "a"), {"ab": 3})
        self.assertEqual(plain_answer(closed, begins_at(chart, closed, "a"), ends), 5)
        closed = net.closed(["cb"])
        self.assertEqual(plain_answer(closed, begins_at(chart, closed, "a"), ends), 5)

    def test_from_a_place_to_itself(self):
        roads = [Road("ab", "a", "b", prices={"cost": 2}), Road("ba", "b", "a", prices={"cost": 3})]
        chart = Chart(roads)
        net = net_of(chart, PRICE)
        self.assertEqual(plain_answer(net, begins_at(chart, net, "a"), ends_at(chart, "a")), 5)
        chart = Chart(roads + [Road("aa", "a", "a", prices={"cost": 4})])
        net = net_of(chart, PRICE)
        begins, ends = begins_at(chart, net, "a"), ends_at(chart, "a")
        self.assertEqual([begins, ends], [{"aa": 4, "ab": 2}, ["aa", "ba"]])
        wanted = [("aa",), ("aa", "ab", "ba"), ("ab", "ba"), ("ab", "ba", "aa")]
        self.assertEqual([answering(net, begins, ends), plain_answer(net, begins, ends)], [wanted, 4])

    def test_what_is_passed_and_told_may_be_changed(self):
        begins, ends = {"b": 2, "a": 1}, ["c", "a"]
        told = answering(NET, begins, ends)
        told.clear()
        self.assertEqual(len(answering(NET, begins, ends)), 5)
        self.assertEqual([plain_answer(NET, begins, ends), list(begins.items()), ends], [1, [("b", 2), ("a", 1)], ["c", "a"]])

    def test_the_order_of_begins_and_ends_means_nothing(self):
        random = Random(14)
        for _ in range(30):
            measure = bad_told(random)
            net = some_net(random, some_shape(random, 4, 2), measure, measure.names())
            begins, ends = some_question(random, net, measure.names())
            turned = dict(list(begins.items())[::-1])
            self.assertEqual(plain_answer(net, begins, ends), plain_answer(net, turned, ends[::-1] + ends))


class Meaning(TestCase):
    """The plain answers against a listing of all simple ways."""

    def look(self, random, net, values, ways):
        for source in net.shape.roads():
            for target in net.shape.roads():
                wanted = plain_between_by_hand(net, ways, source, target)
                self.assertEqual(plain_between(net, source, target), wanted)
        for _ in range(4):
            begins, ends = some_question(random, net, values)
            self.assertEqual(answering(net, begins, ends), ways.answering(begins, ends))
            self.assertEqual(plain_answer(net, begins, ends), plain_by_hand(net, ways, begins, ends))

    def test_measures_of_each_kind(self):
        random = Random(15)
        for measure, values in small_samples():
            for _ in range(2):
                shape = some_shape(random, 5)
                self.look(random, some_net(random, shape, measure, values), values, Ways(shape))

    def test_measures_that_break_sentences(self):
        random = Random(16)
        refused = 0
        for _ in range(150):
            measure = bad_told(random)
            refused += not judge_measure(measure).taken
            shape = some_shape(random, 4)
            self.look(random, some_net(random, shape, measure, measure.names()), measure.names(), Ways(shape))
        self.assertGreater(refused, 80)

    def test_charts(self):
        random = Random(17)
        for chart in some_charts(18, 6, 6):
            ways = Ways(shape_of(chart))
            for measure in chart_measures():
                net = net_of(chart, measure)
                self.look(random, net, list(net.entries().values()) or [measure.stay], ways)

    def test_a_large_chart(self):
        # A square of 6 by 6 places with roads both ways has far too many simple ways to list.
        names = {}
        letters = "abcdef"
        for x in range(6):
            for y in range(6):
                for dx, dy, way in ((1, 0, "e"), (0, 1, "s"), (-1, 0, "w"), (0, -1, "n")):
                    if 0 <= x + dx < 6 and 0 <= y + dy < 6:
                        names[way + letters[x] + letters[y]] = ((x, y), (x + dx, y + dy))
        turns = [(u, v) for u in names for v in names if u != v and names[u][1] == names[v][0]]
        shape = Shape(list(names), turns)
        net = Net(shape, PRICE, {}, {turn: 1 for turn in turns})
        self.assertEqual(plain_between(net, "eaa", "sfe"), 9)
        self.assertEqual(plain_answer(net, {"eaa": 2, "saa": 1}, ["sfe", "sfe"]), 10)


def rounds_by_hand(net, begins, many):
    """So many tables behind the begins, each made from the one ahead as [15] says."""
    arcs, measure = net.arcs(), net.measure
    tables = [{road: begins[road] for road in begins if begins[road] is not None}]
    for _ in range(many):
        old = tables[-1]
        table = {}
        for road in net.shape.roads():
            bits = [old.get(road)]
            for source in net.shape.roads():
                if (source, road) in arcs and source in old:
                    bits.append(measure.then(old[source], arcs[(source, road)]))
            table[road] = folded(measure, bits)
        tables.append({road: value for road, value in table.items() if value is not None})
    return tables


def best_of_ways(net, begins, most):
    """For each road the best of the worths of all ways from begins with at most so many turns, rings and all."""
    found = {}
    ways = [((road,), begins[road]) for road in begins if begins[road] is not None]
    for _ in range(most + 1):
        longer = []
        for way, value in ways:
            found[way[-1]] = net.measure.best(found.get(way[-1]), value)
            for (source, target), arc in net.arcs().items():
                if source == way[-1]:
                    longer.append((way + (target,), net.measure.then(value, arc)))
        ways = longer
    return found


class Rounds(TestCase):
    def test_some(self):
        told = list(rounds(NET, {"b": 4, "a": None}))
        self.assertEqual(told, [{"b": 4}, {"b": 4, "c": 6}, {"a": 6, "b": 4, "c": 6}, {"a": 6, "b": 4, "c": 6}])
        self.assertEqual(list(told[2]), ["a", "b", "c"])
        self.assertEqual(next_round(NET, {"b": 4, "a": None}), {"b": 4, "c": 6})
        self.assertEqual(next_round(net=NET, marks={"c": 1, "d": None}), {"a": 1, "c": 1})
        self.assertEqual(list(rounds(net=NET, begins={})), [{}, {}, {}, {}])

    def test_one_road_and_none(self):
        self.assertEqual(list(rounds(Net(Shape([], []), PRICE, {}, {}), {})), [{}])
        self.assertEqual(next_round(Net(Shape([], []), PRICE, {}, {}), {}), {})
        self.assertEqual(list(rounds(Net(Shape(["a"], []), PRICE, {}, {}), {"a": 3})), [{"a": 3}])

    def test_is_a_generator_of_new_dicts(self):
        begins = {"b": 4}
        told = rounds(NET, begins)
        self.assertIs(iter(told), told)
        for table, wanted in zip(told, [{"b": 4}, {"b": 4, "c": 6}, {"a": 6, "b": 4, "c": 6}]):
            self.assertEqual(table, wanted)
            table.clear()
        self.assertEqual(begins, {"b": 4})
        marks = {"b": 4}
        next_round(NET, marks).clear()
        self.assertEqual(marks, {"b": 4})

    def test_many(self):
        random = Random(19)
        made = small_samples() + [(measure, measure.names()) for measure in [bad_told(random) for _ in range(60)]]
        for measure, values in made:
            net = some_net(random, some_shape(random, 5), measure, values)
            begins = some_question(random, net, values)[0]
            told = list(rounds(net, begins))
            self.assertEqual(told, rounds_by_hand(net, begins, max(0, len(net.shape) - 1)))
            self.assertTrue(all(list(table) == sorted(table) for table in told))
            for one, other in zip(told, told[1:]):
                self.assertEqual(next_round(net, one), other)

    def test_facts_of_taken_measures(self):
        random = Random(20)
        for measure, values in small_samples():
            shape = some_shape(random, 4)
            net = some_net(random, shape, measure, values)
            begins = some_question(random, net, values)[0]
            told = list(rounds(net, begins))
            for at, table in enumerate(told):
                self.assertEqual(table, best_of_ways(net, begins, at))
            ways = Ways(shape)
            for road in shape.roads():
                self.assertEqual(told[-1].get(road), plain_by_hand(net, ways, begins, [road]))
            self.assertEqual(next_round(net, told[-1]), told[-1])

    def test_ways_without_their_rings_are_no_worse(self):
        random = Random(21)
        for measure, values in small_samples():
            net = some_net(random, some_shape(random, 4, 3), measure, values)
            for _ in range(10):
                way = [random.choice(net.shape.roads())]
                while net.shape.following(way[-1]) and random.random() < 0.8:
                    way.append(random.choice(net.shape.following(way[-1])))
                cut = cut_rings(tuple(way))
                self.assertTrue(net.shape.is_way(cut))
                self.assertTrue(measure.no_worse(worth(net, cut), worth(net, tuple(way))))


class Helpers(TestCase):
    def test_joined_and_folded(self):
        self.assertEqual([joined(PRICE, [1, 2, 3]), joined(PRICE, [1, None])], [6, None])
        self.assertEqual([folded(Width(), [1, None, 3]), folded(Width(), []), folded(Width(), [None])], [3, None, None])
        self.assertEqual(folded(Trade("a", "b"), [((1, 2),), None, ((2, 1),)]), ((1, 2), (2, 1)))
        self.assertEqual(joined(Open("a"), [((1, ("x",)),), ((2, ("x",)),)]), ((3, ("x", "x")),))


if __name__ == "__main__":
    main()

"""Hubs, what they tell, their judge ([28]), and the hubs of a plan, and thinning ([29])."""

from random import Random
from unittest import TestCase, main

from feeblind.charts import Chart
from feeblind.errors import HubsNotTaken
from feeblind.hubs import Hubs, hubs_answer, hubs_between, hubs_of, judge_hubs, thin
from feeblind.judging import judge_plan, net_of_way
from feeblind.measures import Price
from feeblind.nets import Net, begins_at, ends_at, net_of
from feeblind.plain import plain_answer, plain_between
from feeblind.plans import Plan, plan_of
from feeblind.shapes import Shape, shape_of
from feeblind.verdicts import HubsRefused, HubsTaken
from tests.charting import (
    EXAMPLE, Ways, folded, joined, plain_between_by_hand, plain_by_hand, small_samples, some_charts, some_net, some_question, some_shape,
)
from tests.oracles import ODD
from tests.planning import any_plan, full_plan, some_order

PRICE = Price("cost")
NET = net_of(Chart.read(EXAMPLE), PRICE)
SHAPE = NET.shape
PLAN = plan_of(SHAPE, ["cb", "bd", "ab", "ac", "cd"])


def all_hubs(roads):
    """Hubs with all roads outward and inward of each road."""
    return Hubs({road: roads for road in roads}, {road: roads for road in roads})


class Plain(TestCase):
    def setUp(self):
        self.outward = {"b": ["c", "a", "c"], "a": ["b"], "d": []}
        self.inward = {"b": ["a"], "c": ["a", "x"]}
        self.hubs = Hubs(self.outward, self.inward)

    def test_lists(self):
        self.assertEqual([self.hubs.outward(road) for road in "abcd"], [["b"], ["a", "c"], [], []])
        self.assertEqual([self.hubs.inward(road=road) for road in "abcd"], [[], ["a"], ["a", "x"], []])
        self.assertEqual(self.hubs.outward(road="b"), ["a", "c"])
        self.assertEqual(repr(self.hubs), "Hubs(6 rows)")
        self.assertEqual(repr(Hubs({}, {})), "Hubs(0 rows)")
        self.assertEqual(repr(Hubs(outward={"a": ("b", "b")}, inward={})), "Hubs(1 rows)")

    def test_any_values(self):
        for value in ODD:
            wanted = (["b"], []) if value == "a" else ([], [])
            self.assertEqual((self.hubs.outward(value), self.hubs.inward(value)), wanted)

    def test_shared(self):
        self.assertEqual(self.hubs.shared("b", "c"), ["a"])
        self.assertEqual(self.hubs.shared(source="b", target="b"), ["a"])
        self.assertEqual([self.hubs.shared("a", "b"), self.hubs.shared("c", "c"), self.hubs.shared("d", "b")], [[], [], []])
        self.assertEqual(Hubs({"a": list("xyz")}, {"b": list("zwx")}).shared("a", "b"), ["x", "z"])

    def test_without(self):
        self.assertEqual(self.hubs.without("b", "c", "outward"), Hubs({"b": ["a"], "a": ["b"]}, self.inward))
        self.assertEqual(self.hubs.without("c", "a", "inward"), Hubs(self.outward, {"b": ["a"], "c": ["x"]}))
        self.assertEqual(self.hubs.without(road="a", hub="b", side="outward"), Hubs({"b": ["a", "c"]}, self.inward))
        for strike in (("b", "b", "outward"), ("b", "c", "inward"), ("a", "b", "inward"), ("c", "a", "outward"), ("x", "y", "outward"), ("d", "a", "outward")):
            self.assertEqual(self.hubs.without(*strike), self.hubs)
        self.assertEqual(repr(self.hubs), "Hubs(6 rows)")

    def test_equality(self):
        self.assertEqual(self.hubs, Hubs({"a": ["b", "b"], "b": ["a", "c"], "z": []}, {"c": ("x", "a"), "b": ["a"], "a": []}))
        for other in (Hubs(self.outward, {}), Hubs({}, self.inward), Hubs(self.inward, self.outward), Hubs({**self.outward, "c": ["a"]}, self.inward),
                      Hubs({**self.outward, "a": ["c"]}, self.inward), Hubs(self.outward, {**self.inward, "b": ["b"]}), self.outward, None):
            self.assertNotEqual(self.hubs, other)

    def test_what_is_passed_and_told_may_be_changed(self):
        self.outward["b"].clear()
        self.outward.clear()
        self.inward["c"].append("q")
        self.inward.clear()
        for told in (self.hubs.outward("b"), self.hubs.inward("c"), self.hubs.shared("b", "c"), self.hubs.outward("d")):
            told.append("q")
        self.assertEqual(self.hubs, Hubs({"b": ["a", "c"], "a": ["b"]}, {"b": ["a"], "c": ["a", "x"]}))
        self.assertEqual([self.hubs.outward("d"), self.hubs.shared("b", "c")], [[], ["a"]])


def gaps_by_hand(ways, hubs):
    """The pairs with the ways that have no shared hub on them, ascending, by going through all simple ways."""
    found = []
    for u in ways.shape.roads():
        for v in ways.shape.roads():
            shared = set(hubs.outward(u)) & set(hubs.inward(v))
            bare = [way for way in ways.between(u, v) if not shared & set(way)]
            if bare:
                found.append((u, v, bare))
    return found


def some_hubs(random, shape):
    """Some hubs, mostly with many rows; some names are no roads."""
    names = shape.roads() + ["x", "yy"]

    def lists():
        return {road: random.sample(names, random.randint(len(names) // 2, len(names))) for road in names if random.random() < 0.95}
    return Hubs(lists(), lists())


class Judge(TestCase):
    def look(self, ways, hubs):
        shape = ways.shape
        gaps = gaps_by_hand(ways, hubs)
        verdict = judge_hubs(shape, hubs)
        if gaps:
            u, v, bare = gaps[0]
            self.assertEqual([verdict.taken, verdict.source, verdict.target], [False, u, v])
            self.assertIn(verdict.way, bare)
            self.assertIsInstance(verdict, HubsRefused)
            net = net_of_way(shape, verdict.way)
            self.assertEqual(plain_between(net, u, v), 0)
            self.assertIsNone(hubs_between(net, hubs, u, v))
        else:
            roads = shape.roads()
            rows = [row for road in roads for row in hubs.outward(road) + hubs.inward(road) if row in roads]
            self.assertEqual(verdict, HubsTaken(len(rows)))
            self.assertIs(verdict.taken, True)
        return verdict.taken

    def test_some(self):
        self.assertEqual(judge_hubs(SHAPE, all_hubs(SHAPE.roads())), HubsTaken(50))
        self.assertEqual(judge_hubs(shape=SHAPE, hubs=Hubs({}, {})), HubsRefused("ab", "ab", ("ab",)))
        self.assertEqual(judge_hubs(Shape([], []), Hubs({"x": ["x"]}, {})), HubsTaken(0))
        self.assertEqual(judge_hubs(Shape(["a"], []), Hubs({"a": ["a"]}, {"a": ["a"]})), HubsTaken(2))
        own = {road: [road] for road in SHAPE.roads()}
        self.assertEqual(judge_hubs(SHAPE, Hubs(own, own)), HubsRefused("ab", "bd", ("ab", "bd")))

    def test_names_that_are_no_roads_do_not_count(self):
        roads = SHAPE.roads()
        lists = {road: roads + ["x", "y"] for road in roads + ["x"]}
        self.assertEqual(judge_hubs(SHAPE, Hubs(lists, lists)), HubsTaken(50))

    def test_both_ends_of_a_way_are_on_it(self):
        shape = Shape("abc", [("a", "b"), ("b", "c")])
        for hub in "abcx":
            outward = {"a": ["a", "b", hub], "b": ["b", "c"], "c": ["c"]}
            inward = {"a": ["a"], "b": ["b"], "c": ["c"] if hub == "c" else ["c", hub]}
            if hub == "b":
                outward["b"] = ["b"]
            self.assertEqual(judge_hubs(shape, Hubs(outward, inward)).taken, hub != "x", hub)

    def test_many(self):
        random = Random(80)
        seen = []
        for _ in range(120):
            ways = Ways(some_shape(random, 5))
            hubs = random.choice([some_hubs(random, ways.shape), hubs_of(any_plan(random, ways.shape)), hubs_of(full_plan(random, ways.shape))])
            seen.append(self.look(ways, hubs))
            if seen[-1]:
                names = [(road, row, side) for road in ways.shape.roads() for side, rows in (("outward", hubs.outward(road)), ("inward", hubs.inward(road))) for row in rows]
                for strike in random.sample(names, min(3, len(names))):
                    self.look(ways, hubs.without(*strike))
        self.assertGreater(min(seen.count(True), seen.count(False)), 20)


class OfPlans(TestCase):
    def by_hand(self, plan):
        """The hubs of a plan, by walking on from each road."""
        order, outward, inward = plan.order(), {}, {}
        for road in order:
            for told, step in ((outward, lambda u, v: (u, v)), (inward, lambda u, v: (v, u))):
                found = [road]
                for u in found:
                    found += [v for v in order[order.index(u) + 1:] if step(u, v) in plan.pairs() and v not in found]
                told[road] = found
        return Hubs(outward, inward)

    def test_example(self):
        hubs = hubs_of(PLAN)
        self.assertEqual({road: hubs.outward(road) for road in SHAPE.roads()}, {"ab": ["ab"], "ac": ["ac", "cd"], "bd": ["bd"], "cb": ["bd", "cb"], "cd": ["cd"]})
        self.assertEqual({road: hubs.inward(road) for road in SHAPE.roads()}, {"ab": ["ab"], "ac": ["ac"], "bd": ["ab", "ac", "bd"], "cb": ["ac", "cb"], "cd": ["cd"]})
        self.assertEqual(hubs_of(plan=Plan([], [])), Hubs({}, {}))
        self.assertEqual(hubs_of(Plan(["a"], [])), Hubs({"a": ["a"]}, {"a": ["a"]}))

    def test_roads_that_are_reached_by_several_steps(self):
        plan = Plan(list("abcd"), [("a", "b"), ("b", "c"), ("c", "d"), ("d", "a"), ("c", "b")])
        hubs = hubs_of(plan)
        self.assertEqual([hubs.outward(road) for road in "abcd"], [list("abcd"), list("bcd"), list("cd"), ["d"]])
        self.assertEqual([hubs.inward(road) for road in "abcd"], [["a", "d"], ["b", "c"], ["c"], ["d"]])

    def test_many(self):
        random = Random(81)
        for _ in range(60):
            shape = some_shape(random, 6)
            plan = any_plan(random, shape)
            self.assertEqual(hubs_of(plan), self.by_hand(plan))
            if judge_plan(shape, plan).taken:
                self.assertTrue(judge_hubs(shape, hubs_of(plan)).taken)
            full = full_plan(random, shape)
            self.assertEqual(hubs_of(full), self.by_hand(full))
            self.assertTrue(judge_hubs(shape, hubs_of(full)).taken)
            self.assertEqual(gaps_by_hand(Ways(shape), hubs_of(full)), [])


def thinned_by_hand(ways, hubs, names):
    """The hubs thinned, in the words of [29], looking at all simple ways each time."""
    for name in sorted(names):
        for side in ("outward", "inward"):
            for row in hubs.outward(name) if side == "outward" else hubs.inward(name):
                less = hubs.without(name, row, side)
                if not gaps_by_hand(ways, less):
                    hubs = less
    return hubs


class Thinning(TestCase):
    def test_refused(self):
        for hubs in (Hubs({}, {}), hubs_of(Plan(PLAN.order(), SHAPE.turns()))):
            with self.assertRaises(HubsNotTaken) as caught:
                thin(SHAPE, hubs)
            self.assertEqual(caught.exception.refused, judge_hubs(SHAPE, hubs))

    def test_some(self):
        self.assertEqual(thin(shape=Shape([], []), hubs=Hubs({"x": ["y", "x"]}, {"z": ["x"]})), Hubs({}, {}))
        own = {"a": ["a", "x"], "x": ["a"]}
        self.assertEqual(thin(Shape(["a"], []), Hubs(own, own)), Hubs({"a": ["a"]}, {"a": ["a"]}))
        hubs = all_hubs(["a", "b"])
        self.assertEqual(thin(Shape("ab", [("a", "b")]), hubs), Hubs({"a": ["a"], "b": ["b"]}, {"a": ["a"], "b": ["a", "b"]}))
        self.assertEqual(hubs, all_hubs(["a", "b"]))

    def test_many(self):
        random = Random(82)
        for _ in range(40):
            shape = some_shape(random, 4)
            ways = Ways(shape)
            names = shape.roads() + ["x", "yy"]
            for hubs in (hubs_of(full_plan(random, shape)), all_hubs(shape.roads()), all_hubs(names)):
                told = thin(shape, hubs)
                self.assertEqual(told, thinned_by_hand(ways, hubs, names))
                self.assertTrue(judge_hubs(shape, told).taken)
                for road in names:
                    for side, rows in (("outward", told.outward(road)), ("inward", told.inward(road))):
                        for row in rows:
                            self.assertTrue(gaps_by_hand(ways, told.without(road, row, side)))


class Telling(TestCase):
    def by_hand(self, net, ways, hubs, source, target):
        """What hubs tell, in the words of [28]."""
        measure, bits = net.measure, []
        for hub in net.shape.roads():
            if hub in hubs.outward(source) and hub in hubs.inward(target):
                pair = [plain_between_by_hand(net, ways, source, hub), plain_between_by_hand(net, ways, hub, target)]
                bits.append(joined(measure, pair))
        return folded(measure, bits)

    def look(self, random, net, hubs, values):
        ways, roads, measure = Ways(net.shape), net.shape.roads(), net.measure
        told = {(u, v): self.by_hand(net, ways, hubs, u, v) for u in roads for v in roads}
        for u, v in told:
            self.assertEqual(hubs_between(net, hubs, u, v), told[(u, v)])
        for _ in range(3):
            begins, ends = some_question(random, net, values)
            wanted = folded(measure, [joined(measure, [begins[b], told[(b, e)]]) for b in begins for e in ends])
            self.assertEqual(hubs_answer(net, hubs, begins, ends), wanted)
            if judge_hubs(net.shape, hubs).taken:
                self.assertEqual(wanted, plain_by_hand(net, ways, begins, ends))

    def test_example(self):
        chart = Chart.read(EXAMPLE)
        hubs = hubs_of(PLAN)
        self.assertEqual(hubs_answer(net=NET, hubs=hubs, begins=begins_at(chart, NET, "a"), ends=ends_at(chart, "d")), 4)
        self.assertEqual(hubs_between(net=NET, hubs=hubs, source="ac", target="bd"), 3)
        self.assertEqual([hubs_between(NET, hubs, "ac", "ac"), hubs_between(NET, hubs, "bd", "ac")], [0, None])

    def test_nothing_asked(self):
        hubs = hubs_of(PLAN)
        for begins, ends in (({}, ["bd"]), ({"ac": 1}, []), ({"ac": None}, ["bd"]), ({}, [])):
            self.assertIsNone(hubs_answer(NET, hubs, begins, ends))
        self.assertEqual(hubs_answer(NET, hubs, {"ac": None, "bd": 3, "cd": 9}, ["cd", "bd", "bd"]), 3)
        self.assertIsNone(hubs_answer(Net(Shape([], []), PRICE, {}, {}), Hubs({}, {}), {}, []))

    def test_shared_names_that_are_no_roads_mean_nothing(self):
        hubs = Hubs({"ab": ["x"], "ac": ["x", "cb"]}, {"bd": ["x", "cb"]})
        self.assertIsNone(hubs_between(NET, hubs, "ab", "bd"))
        self.assertEqual(hubs_between(NET, hubs, "ac", "bd"), 3)

    def test_many(self):
        random = Random(83)
        for measure, values in small_samples():
            net = some_net(random, some_shape(random, 4, 1), measure, values)
            for hubs in (some_hubs(random, net.shape), hubs_of(plan_of(net.shape, some_order(random, net.shape)))):
                self.look(random, net, hubs, values)

    def test_charts(self):
        random = Random(84)
        for chart in some_charts(85, 10, 7):
            shape = shape_of(chart)
            hubs = thin(shape, hubs_of(plan_of(shape, some_order(random, shape))))
            net = net_of(chart, PRICE)
            for place in "abcd":
                begins, ends = begins_at(chart, net, "a"), ends_at(chart, place)
                self.assertEqual(hubs_answer(net, hubs, begins, ends), plain_answer(net, begins, ends))


if __name__ == "__main__":
    main()

"""Filling and asking plans ([20], [21]), and what follows for taken measures and plans ([22])."""

from random import Random
from unittest import TestCase, main

from feeblind.charts import Chart
from feeblind.errors import BadOrder
from feeblind.ladder import climb, climb_back, fan, fan_back, fill, meet, told_answer, told_between, told_many
from feeblind.measures import Price
from feeblind.nets import Net, begins_at, ends_at, net_of
from feeblind.plain import plain_answer, plain_between
from feeblind.plans import Plan, order_by_few, plan_of
from feeblind.shapes import Shape, shape_of
from tests.charting import (
    EXAMPLE, Ways, bad_told, chart_measures, folded, plain_between_by_hand, plain_by_hand, small_samples, some_charts, some_net,
    some_question, some_shape, worth_by_hand,
)
from tests.planning import (
    any_plan, backs_by_hand, fan_back_by_hand, fan_by_hand, filled_by_hand, full_plan, low_ways_by_hand, some_only, some_order,
    told_by_hand, ups_by_hand,
)

PRICE = Price("cost")
CHART = Chart.read(EXAMPLE)
NET = net_of(CHART, PRICE)
PLAN = plan_of(shape_of(CHART), ["cb", "bd", "ab", "ac", "cd"])
TABLE = {("ab", "bd"): 2, ("ac", "bd"): 3, ("ac", "cb"): 1, ("ac", "cd"): 5, ("cb", "bd"): 2}
EMPTY = Shape([], [])


class Filling(TestCase):
    def test_example(self):
        self.assertEqual(list(fill(NET, PLAN).items()), list(TABLE.items()))
        self.assertEqual(fill(net=NET, plan=PLAN), TABLE)

    def test_without_roads_and_with_one(self):
        self.assertEqual(fill(Net(EMPTY, PRICE, {}, {}), Plan([], [])), {})
        self.assertEqual(fill(Net(Shape(["a"], []), PRICE, {}, {}), Plan(["a"], [])), {})

    def test_pairs_with_none_are_left_out(self):
        closed = NET.closed(["bd"])
        self.assertEqual(fill(closed, PLAN), {("ac", "cb"): 1, ("ac", "cd"): 5})
        spare = Plan(PLAN.order(), PLAN.pairs() + [("cd", "ab")])
        self.assertEqual(fill(NET, spare), TABLE)

    def test_only_pairs_of_the_plan(self):
        less = Plan(PLAN.order(), [("ac", "cb"), ("cb", "bd")])
        self.assertEqual(fill(NET, less), {("ac", "cb"): 1, ("cb", "bd"): 2})

    def test_bad_orders(self):
        for order, road in ((["ab", "ac", "bd", "cb"], "cd"), (["ab", "ac", "bd", "cb", "cd", "x"], "x"), (["ac", "y"], "ab"), ([], "ab")):
            with self.assertRaises(BadOrder) as caught:
                fill(NET, Plan(order, []))
            self.assertEqual(caught.exception.road, road)

    def test_what_is_told_may_be_changed(self):
        fill(NET, PLAN).clear()
        self.assertEqual(fill(NET, PLAN), TABLE)


class Asking(TestCase):
    def test_example(self):
        begins, ends = begins_at(CHART, NET, "a"), ends_at(CHART, "d")
        self.assertEqual(told_answer(PRICE, PLAN, TABLE, begins, ends), 4)
        self.assertEqual(list(climb(PRICE, PLAN, TABLE, begins).items()), [("ab", 3), ("ac", 1), ("cd", 6)])
        self.assertEqual(list(climb_back(PRICE, PLAN, TABLE, ends).items()), [("ab", 2), ("ac", 3), ("bd", 0), ("cd", 0)])
        self.assertEqual(list(fan(PRICE, PLAN, TABLE, begins).items()), [("ab", 3), ("ac", 1), ("bd", 4), ("cb", 2), ("cd", 6)])
        self.assertEqual(list(fan_back(PRICE, PLAN, TABLE, ends).items()), [("ab", 2), ("ac", 3), ("bd", 0), ("cb", 2), ("cd", 0)])
        self.assertEqual(told_between(PRICE, PLAN, TABLE, "ac", "bd"), 3)
        self.assertEqual([told_between(PRICE, PLAN, TABLE, "ac", "ac"), told_between(PRICE, PLAN, TABLE, "bd", "ac")], [0, None])

    def test_by_name(self):
        ups = climb(measure=PRICE, plan=PLAN, table=TABLE, begins={"ac": 1, "ab": None})
        backs = climb_back(measure=PRICE, plan=PLAN, table=TABLE, ends=["bd"])
        self.assertEqual(meet(measure=PRICE, plan=PLAN, ups=ups, backs=backs), 4)
        self.assertEqual(fan(measure=PRICE, plan=PLAN, table=TABLE, begins={"cb": 0}), {"bd": 2, "cb": 0})
        self.assertEqual(fan_back(measure=PRICE, plan=PLAN, table=TABLE, ends=["cb"]), {"ac": 1, "cb": 0})
        self.assertEqual(told_answer(measure=PRICE, plan=PLAN, table=TABLE, begins={"cb": 7}, ends=["bd", "bd"]), 9)
        self.assertEqual(told_between(measure=PRICE, plan=PLAN, table=TABLE, source="cb", target="bd"), 2)
        told = told_many(measure=PRICE, plan=PLAN, table=TABLE, questions=[{"cb": 1}, {}, {"ac": 0}], goals=[["bd"], ["cd", "ac"], []])
        self.assertEqual(told, [[3, None, None], [None, None, None], [3, 0, None]])

    def test_nothing_asked(self):
        for begins, ends in (({}, ["bd"]), ({"ac": 1}, []), ({"ac": None}, ["bd"]), ({}, [])):
            self.assertIsNone(told_answer(PRICE, PLAN, TABLE, begins, ends))
        self.assertEqual([climb(PRICE, PLAN, TABLE, {}), fan_back(PRICE, PLAN, TABLE, [])], [{}, {}])
        self.assertIsNone(told_answer(PRICE, Plan([], []), {}, {}, []))
        self.assertEqual(told_many(PRICE, PLAN, TABLE, [], [["bd"]]), [])
        self.assertEqual(told_many(PRICE, PLAN, TABLE, [{}], []), [[]])

    def test_meet(self):
        self.assertEqual(meet(PRICE, PLAN, {"ab": 3, "ac": 1}, {"ab": 1, "ac": 4, "bd": 0}), 4)
        self.assertIsNone(meet(PRICE, PLAN, {"ab": 3}, {"ac": 4}))
        self.assertIsNone(meet(PRICE, PLAN, {}, {}))

    def test_dicts_are_not_changed_and_new(self):
        begins, ends, table = {"ab": None, "ac": 1}, ["cd", "bd", "bd"], dict(TABLE)
        for call in (
            lambda: climb(PRICE, PLAN, table, begins), lambda: climb_back(PRICE, PLAN, table, ends), lambda: fan(PRICE, PLAN, table, begins),
            lambda: fan_back(PRICE, PLAN, table, ends), lambda: told_many(PRICE, PLAN, table, [begins, begins], [ends, ends]),
        ):
            first = call()
            again = call()
            self.assertEqual(first, again)
            first.clear()
            again[0:1] if isinstance(again, list) else again.clear()
            self.assertEqual(len(call()) > 0, True)
        rows = told_many(PRICE, PLAN, table, [begins, begins], [ends])
        rows[0].append(1)
        self.assertEqual(rows[1], [4])
        self.assertEqual([begins, ends, table], [{"ab": None, "ac": 1}, ["cd", "bd", "bd"], TABLE])


class ByHand(TestCase):
    """The words of [20] and [21], for any measure and any plan."""

    def look(self, random, net, plan, values):
        measure = net.measure
        table = fill(net, plan)
        self.assertEqual(list(table.items()), list(filled_by_hand(net, plan).items()))
        questions = [some_question(random, net, values) for _ in range(3)]
        for begins, ends in questions:
            ups, backs = climb(measure, plan, table, begins), climb_back(measure, plan, table, ends)
            for told, wanted in (
                (ups, ups_by_hand(measure, plan, table, begins)), (backs, backs_by_hand(measure, plan, table, ends)),
                (fan(measure, plan, table, begins), fan_by_hand(measure, plan, table, begins)),
                (fan_back(measure, plan, table, ends), fan_back_by_hand(measure, plan, table, ends)),
            ):
                self.assertEqual(list(told.items()), list(some_only(wanted).items()))
            wanted = told_by_hand(measure, plan, table, begins, ends)
            self.assertEqual([told_answer(measure, plan, table, begins, ends), meet(measure, plan, ups, backs)], [wanted, wanted])
        for source in net.shape.roads():
            for target in net.shape.roads():
                wanted = told_by_hand(measure, plan, table, {source: measure.stay}, [target])
                self.assertEqual(told_between(measure, plan, table, source, target), wanted)
        begins, goals = [question[0] for question in questions], [question[1] for question in questions[:2]]
        wanted = [[told_by_hand(measure, plan, table, one, other) for other in goals] for one in begins]
        self.assertEqual(told_many(measure, plan, table, begins, goals), wanted)

    def test_measures_of_each_kind(self):
        random = Random(50)
        for measure, values in small_samples():
            for make in (any_plan, full_plan):
                net = some_net(random, some_shape(random, 5), measure, values)
                self.look(random, net, make(random, net.shape), values)

    def test_measures_that_break_sentences(self):
        random = Random(51)
        for _ in range(150):
            measure = bad_told(random)
            net = some_net(random, some_shape(random, 5), measure, measure.names())
            self.look(random, net, random.choice([any_plan, full_plan])(random, net.shape), measure.names())


class Facts(TestCase):
    """[22]: for a taken measure and a plan with all low pairs what is told is the plain meaning."""

    def look(self, random, net, plan, values, ways):
        measure = net.measure
        table = fill(net, plan)
        for u in net.shape.roads():
            for v in net.shape.roads():
                self.assertEqual(told_between(measure, plan, table, u, v), plain_between_by_hand(net, ways, u, v))
                low = low_ways_by_hand(net.shape, plan.order(), u, v) if u != v else []
                if low:
                    self.assertEqual(table.get((u, v)), folded(measure, [worth_by_hand(net, way) for way in low]))
        for _ in range(3):
            begins, ends = some_question(random, net, values)
            self.assertEqual(told_answer(measure, plan, table, begins, ends), plain_by_hand(net, ways, begins, ends))
            marks, backs = fan(measure, plan, table, begins), fan_back(measure, plan, table, ends)
            for road in net.shape.roads():
                self.assertEqual(marks.get(road), plain_by_hand(net, ways, begins, [road]))
                self.assertEqual(backs.get(road), plain_by_hand(net, ways, {road: measure.stay}, ends))

    def test_measures_of_each_kind(self):
        random = Random(52)
        for measure, values in small_samples():
            for _ in range(2):
                net = some_net(random, some_shape(random, 5), measure, values)
                self.look(random, net, full_plan(random, net.shape), values, Ways(net.shape))

    def test_charts(self):
        random = Random(53)
        for chart in some_charts(54, 6, 6):
            shape = shape_of(chart)
            ways = Ways(shape)
            for measure in chart_measures():
                net = net_of(chart, measure)
                values = list(net.entries().values()) or [measure.stay]
                self.look(random, net, full_plan(random, shape), values, ways)
                closed = net.closed(random.sample(shape.roads(), len(shape) // 3))
                self.look(random, closed, plan_of(shape, some_order(random, shape)), values, ways)

    def test_a_large_chart(self):
        random = Random(55)
        chart = some_charts(56, 1, 60, "abcdefghijklmnopqrstuvwxyz")[0]
        shape = shape_of(chart)
        plan = plan_of(shape, order_by_few(shape))
        for measure in chart_measures():
            net = net_of(chart, measure)
            table = fill(net, plan)
            for _ in range(20):
                u, v = random.choice(shape.roads()), random.choice(shape.roads())
                self.assertEqual(told_between(measure, plan, table, u, v), plain_between(net, u, v))
                begins = begins_at(chart, net, random.choice(chart.places()))
                ends = ends_at(chart, random.choice(chart.places()))
                self.assertEqual(told_answer(measure, plan, table, begins, ends), plain_answer(net, begins, ends))


if __name__ == "__main__":
    main()

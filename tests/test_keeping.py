"""Kept plans ([27], with [14] for what they tell)."""

from random import Random
from unittest import TestCase, main

from feeblind.charts import Chart
from feeblind.errors import BadOrder, BadValue, NoTurn
from feeblind.judging import judge_plan
from feeblind.keeping import Kept
from feeblind.ladder import fill
from feeblind.measures import Price
from feeblind.nets import Net, net_of
from feeblind.plans import Plan, order_by_few, plan_of
from feeblind.sentences import judge_measure
from feeblind.shapes import Shape
from tests.charting import EXAMPLE, Ways, bad_told, plain_by_hand, small_samples, some_charts, some_net, some_question, some_shape
from tests.planning import any_plan, filled_by_hand, full_plan, told_by_hand, worked_by_hand

PRICE = Price("cost")
NET = net_of(Chart.read(EXAMPLE), PRICE)
ORDER = ["cb", "bd", "ab", "ac", "cd"]
PLAN = plan_of(NET.shape, ORDER)
TABLE = {("ab", "bd"): 2, ("ac", "bd"): 3, ("ac", "cb"): 1, ("ac", "cd"): 5, ("cb", "bd"): 2}


class Plain(TestCase):
    def setUp(self):
        self.kept = Kept(NET, PLAN)

    def test_at_first(self):
        kept = Kept(net=NET, plan=PLAN)
        self.assertEqual([kept.net_now(), kept.plan_now(), list(kept.table().items())], [NET, PLAN, list(TABLE.items())])
        self.assertEqual([kept.touched, kept.again(), kept.moved()], [0, [], []])
        self.assertEqual([len(kept), repr(kept)], [5, "Kept(5 roads, 5 pairs)"])
        self.assertEqual([kept.told({"ab": 3, "ac": 1}, ["bd", "cd"]), kept.between("ac", "bd"), kept("ac", "bd")], [4, 3, 3])
        self.assertEqual([kept.told(begins={"cb": 1}, ends=["bd"]), kept.between(source="cb", target="bd"), kept(source="cb", target="bd")], [3, 2, 2])

    def test_without_roads_and_with_one(self):
        kept = Kept(Net(Shape([], []), PRICE, {}, {}), Plan([], []))
        self.assertEqual([kept.table(), len(kept), bool(kept), repr(kept), kept.told({}, [])], [{}, 0, True, "Kept(0 roads, 0 pairs)", None])
        self.assertIsNone(kept.change({}))
        kept = Kept(Net(Shape(["a"], []), PRICE, {}, {}), Plan(["a"], []))
        self.assertEqual([kept("a", "a"), kept.told({"a": 4}, ["a"]), repr(kept)], [0, 4, "Kept(1 roads, 0 pairs)"])

    def test_bad_orders(self):
        for order, road in ((["ab", "ac", "bd", "cb"], "cd"), ([*ORDER, "x"], "x"), ([], "ab")):
            with self.assertRaises(BadOrder) as caught:
                Kept(NET, Plan(order, []))
            self.assertEqual(caught.exception.road, road)

    def test_changes(self):
        self.assertIsNone(self.kept.change({("ac", "cb"): 9}))
        self.assertEqual([self.kept.again(), self.kept.moved()], [[("ac", "bd"), ("ac", "cb")]] * 2)
        self.assertEqual([self.kept.touched, self.kept("ac", "bd"), self.kept.net_now()], [2, 11, NET.with_arcs({("ac", "cb"): 9})])
        self.kept.change(arcs={("cb", "bd"): None, ("ac", "cd"): 5})
        self.assertEqual([self.kept.again(), self.kept.moved()], [[("ac", "bd"), ("cb", "bd")]] * 2)
        self.assertEqual(self.kept.table(), {("ab", "bd"): 2, ("ac", "cb"): 9, ("ac", "cd"): 5})
        self.assertIsNone(self.kept("ac", "bd"))
        self.kept.change({("cb", "bd"): 2, ("ac", "cb"): 1})
        self.assertEqual([self.kept.net_now(), self.kept.table(), self.kept.touched], [NET, TABLE, 3])

    def test_what_moves_no_further_is_worked_again_alone(self):
        # a turns into c by way of b and of w; the dearer way may rise.
        shape = Shape("abcw", [("a", "b"), ("b", "c"), ("a", "w"), ("w", "c"), ("c", "d"), ("a", "d")][:4])
        net = Net(shape, PRICE, {}, {("a", "b"): 1, ("b", "c"): 1, ("a", "w"): 5, ("w", "c"): 5})
        kept = Kept(net, plan_of(shape, list("bwac")))
        kept.change({("w", "c"): 7})
        self.assertEqual([kept.again(), kept.moved(), kept.touched], [[("a", "c"), ("w", "c")], [("w", "c")], 2])
        self.assertEqual(kept("a", "c"), 2)

    def test_changes_to_equal_arcs_and_without_arcs(self):
        for arcs in ({}, {("ac", "cb"): 1}, {("ac", "cb"): 1, ("cb", "bd"): 2}):
            self.kept.change({("ac", "cb"): 9})
            self.kept.change({("ac", "cb"): 1})
            self.assertEqual(self.kept.touched, 2)
            self.assertIsNone(self.kept.change(arcs))
            self.assertEqual([self.kept.touched, self.kept.again(), self.kept.moved(), self.kept.table()], [0, [], [], TABLE])

    def test_refused_changes_change_nothing(self):
        self.kept.change({("ac", "cb"): 9})
        before = [self.kept.net_now(), self.kept.table(), self.kept.again(), self.kept.moved(), self.kept.touched]
        with self.assertRaises(NoTurn) as caught:
            self.kept.change({("cb", "bd"): -1, ("cd", "x"): 1, ("cb", "cb"): 0})
        self.assertEqual([caught.exception.source, caught.exception.target], ["cb", "cb"])
        with self.assertRaises(BadValue) as caught:
            self.kept.change({("cb", "bd"): "no", ("ac", "cd"): True, ("ab", "bd"): 7})
        self.assertIs(caught.exception.value, True)
        self.assertEqual([self.kept.net_now(), self.kept.table(), self.kept.again(), self.kept.moved(), self.kept.touched], before)

    def test_turns_that_are_no_pairs_of_the_plan(self):
        kept = Kept(NET, Plan(ORDER, [("ac", "cb"), ("ac", "bd")]))
        kept.change({("cb", "bd"): 7, ("ac", "cd"): 1})
        self.assertEqual([kept.touched, kept.table(), kept.net_now().arc("cb", "bd")], [0, {("ac", "cb"): 1}, 7])

    def test_twins(self):
        self.kept.change({("ac", "cb"): 9})
        twin = self.kept.twin()
        for one in (self.kept, twin):
            self.assertEqual([one.touched, one.again(), one.moved()], [2, [("ac", "bd"), ("ac", "cb")], [("ac", "bd"), ("ac", "cb")]])
        twin.change({("cb", "bd"): 0})
        self.assertEqual([self.kept("ac", "bd"), twin("ac", "bd"), self.kept.touched], [11, 9, 2])
        self.kept.change({("ac", "cd"): None})
        self.assertEqual([twin.table()[("ac", "cd")], twin.again(), twin.plan_now()], [5, [("ac", "bd"), ("cb", "bd")], PLAN])
        self.assertEqual(repr(twin.twin()), repr(self.kept))

    def test_what_is_passed_and_told_may_be_changed(self):
        arcs = {("ac", "cb"): 9}
        self.kept.change(arcs)
        for told in (arcs, self.kept.table(), self.kept.again(), self.kept.moved()):
            told.clear()
        self.assertEqual([self.kept("ac", "cb"), self.kept.touched, len(self.kept.again()), len(self.kept.moved())], [9, 2, 2, 2])
        self.assertEqual(self.kept.table(), {**TABLE, ("ac", "cb"): 9, ("ac", "bd"): 11})
        self.assertEqual(NET.arc("ac", "cb"), 1)


class Many(TestCase):
    def rows(self, random, net, plan, values, many):
        """A kept plan against filling from nothing, behind a row of changes."""
        kept = Kept(net, plan)
        old = net
        for _ in range(many):
            chosen = random.sample(net.shape.turns(), random.randint(0, min(3, len(net.shape.turns()))))
            arcs = {turn: random.choice([random.choice(values), None, old.arc(*turn)]) for turn in chosen}
            new = old.with_arcs(arcs)
            kept.change(arcs)
            again, moved = worked_by_hand(old, new, plan)
            self.assertEqual([kept.again(), kept.moved(), kept.touched], [again, moved, len(again)])
            self.assertEqual(list(kept.table().items()), list(fill(new, plan).items()))
            self.assertEqual(kept.table(), filled_by_hand(new, plan))
            self.assertEqual(kept.net_now(), new)
            begins, ends = some_question(random, new, values)
            wanted = told_by_hand(net.measure, plan, kept.table(), begins, ends)
            self.assertEqual(kept.told(begins, ends), wanted)
            if judge_measure(net.measure).taken and judge_plan(net.shape, plan).taken:
                self.assertEqual(wanted, plain_by_hand(new, Ways(net.shape), begins, ends))
            old = new
        twin = kept.twin()
        self.assertEqual([twin.table(), twin.again(), twin.moved()], [kept.table(), kept.again(), kept.moved()])

    def test_measures_of_each_kind(self):
        random = Random(70)
        for measure, values in small_samples():
            for make in (any_plan, full_plan):
                net = some_net(random, some_shape(random, 5), measure, values)
                self.rows(random, net, make(random, net.shape), values, 4)

    def test_measures_that_break_sentences(self):
        random = Random(71)
        for _ in range(60):
            measure = bad_told(random)
            net = some_net(random, some_shape(random, 5), measure, measure.names())
            self.rows(random, net, random.choice([any_plan, full_plan])(random, net.shape), measure.names(), 4)

    def test_a_large_chart(self):
        random = Random(72)
        chart = some_charts(56, 1, 60, "abcdefghijklmnopqrstuvwxyz")[0]
        net = net_of(chart, PRICE)
        plan = plan_of(net.shape, order_by_few(net.shape))
        kept = Kept(net, plan)
        for _ in range(30):
            arcs = {turn: random.choice([0, 3, 9, None]) for turn in random.sample(net.shape.turns(), 2)}
            kept.change(arcs)
            net = net.with_arcs(arcs)
            self.assertEqual(kept.table(), fill(net, plan))


if __name__ == "__main__":
    main()

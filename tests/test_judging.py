"""The judge of plans ([23]), the counter-cases ([24], with [7] and [9]), and the net of a way alone."""

from random import Random
from unittest import TestCase, main

from feeblind.charts import Chart
from feeblind.errors import BadOrder
from feeblind.judging import Case, counter_case, judge_plan, net_of_way
from feeblind.ladder import fill, plain_case, told_between, told_case
from feeblind.measures import Price
from feeblind.nets import Net
from feeblind.plain import plain_between
from feeblind.plans import Plan, plan_of
from feeblind.sentences import judge_measure
from feeblind.shapes import Shape, shape_of
from feeblind.verdicts import PlanRefused, PlanTaken
from tests.charting import EXAMPLE, Ways, plain_between_by_hand, plain_by_hand, some_net, some_shape
from tests.oracles import EIGHT
from tests.planning import (
    any_plan, broken_told, filled_by_hand, full_plan, low_pairs_by_walk, low_ways_by_hand, some_order, told_by_hand,
)

SHAPE = shape_of(Chart.read(EXAMPLE))
ORDER = ["cb", "bd", "ab", "ac", "cd"]


class Judge(TestCase):
    def refused(self, shape, plan, source, target):
        verdict = judge_plan(shape, plan)
        self.assertIsInstance(verdict, PlanRefused)
        self.assertEqual([verdict.taken, verdict.source, verdict.target], [False, source, target])
        self.assertIn(verdict.way, low_ways_by_hand(shape, plan.order(), source, target))
        self.assertEqual(verdict, judge_plan(shape, plan))

    def test_taken(self):
        self.assertEqual(judge_plan(SHAPE, plan_of(SHAPE, ORDER)), PlanTaken(5, 0))
        self.assertEqual(judge_plan(shape=SHAPE, plan=plan_of(SHAPE, ORDER, spare=[("cd", "ab"), ("ab", "cd")])), PlanTaken(5, 2))
        self.assertEqual(judge_plan(Shape([], []), Plan([], [])), PlanTaken(0, 0))
        self.assertEqual(judge_plan(Shape(["a"], []), Plan(["a"], [])), PlanTaken(0, 0))

    def test_refused(self):
        self.refused(SHAPE, Plan(ORDER, SHAPE.turns()), "ac", "bd")
        self.refused(SHAPE, Plan(ORDER, []), "cb", "bd")

    def test_the_first_one_by_the_ranks_of_source_and_target(self):
        shape = Shape("abc", [("a", "b"), ("b", "c"), ("c", "a"), ("c", "b")])
        for order, source, target in (("abc", "a", "b"), ("cab", "c", "a"), ("cba", "c", "b"), ("bca", "b", "c"), ("bac", "b", "c"), ("acb", "a", "b")):
            self.refused(shape, Plan(list(order), []), source, target)
        for order, pairs, source, target in (("cba", [("c", "b")], "c", "a"), ("cba", [("c", "b"), ("c", "a")], "b", "c"), ("cba", [("c", "b"), ("c", "a"), ("b", "c")], "b", "a")):
            self.refused(shape, Plan(list(order), pairs), source, target)

    def test_the_way_is_a_low_one_though_there_are_shorter_ones(self):
        shape = Shape("abhuv", [("u", "a"), ("a", "b"), ("b", "v"), ("u", "h"), ("h", "v")])
        for order in ("abuhv", "abvhu", "abuvh", "abvuh", "bavhu"):
            low = low_pairs_by_walk(shape, list(order))
            plan = Plan(list(order), [pair for pair in low if pair != ("u", "v")])
            verdict = judge_plan(shape, plan)
            self.assertEqual(verdict, PlanRefused("u", "v", ("u", "a", "b", "v")))
        plan = Plan(list("habuv"), [pair for pair in low_pairs_by_walk(shape, list("habuv")) if pair != ("u", "v")])
        self.refused(shape, plan, "u", "v")

    def test_roads_that_only_one_of_both_has(self):
        for shape, order, road in (
            ("abc", "ab", "c"), ("ab", "abc", "c"), ("abx", "abc", "c"), ("abc", "abx", "c"), ("", "ba", "a"), ("ba", "", "a"),
            ("cxa", "ybc", "a"), ("zz", "", None),
        ):
            if road is not None:
                with self.assertRaises(BadOrder) as caught:
                    judge_plan(Shape(list(shape), []), Plan(list(order), []))
                self.assertEqual(caught.exception.road, road)

    def test_many(self):
        random = Random(40)
        seen = 0
        for _ in range(150):
            shape = some_shape(random, 6)
            order = some_order(random, shape)
            low = low_pairs_by_walk(shape, order)
            plan = random.choice([any_plan(random, shape), full_plan(random, shape), Plan(order, random.sample(low, max(0, len(low) - random.randint(1, 2))))])
            rank = {road: at for at, road in enumerate(plan.order())}
            needed = low_pairs_by_walk(shape, plan.order())
            lacking = sorted((rank[u], rank[v], u, v) for u, v in needed if (u, v) not in plan.pairs())
            if lacking:
                seen += 1
                self.refused(shape, plan, *lacking[0][2:])
            else:
                self.assertEqual(judge_plan(shape, plan), PlanTaken(len(needed), len(set(plan.pairs()) - set(needed))))
        self.assertGreater(seen, 30)

    def test_a_refused_plan_tells_none_in_the_net_of_the_way(self):
        random = Random(41)
        for _ in range(100):
            shape = some_shape(random, 6)
            plan = any_plan(random, shape)
            verdict = judge_plan(shape, plan)
            if not verdict.taken:
                net = net_of_way(shape, verdict.way)
                self.assertEqual(plain_between(net, verdict.source, verdict.target), 0)
                self.assertIsNone(told_between(net.measure, plan, fill(net, plan), verdict.source, verdict.target))

    def test_plans_that_lack_one_low_pair_or_two(self):
        random = Random(42)
        for _ in range(60):
            shape = some_shape(random, 5, 2)
            plan = full_plan(random, shape)
            low = low_pairs_by_walk(shape, plan.order())
            for many in (1, 2):
                if len(low) < many:
                    continue
                gone = random.sample(low, many)
                less = Plan(plan.order(), [pair for pair in plan.pairs() if pair not in gone])
                verdict = judge_plan(shape, less)
                first = min(gone, key=lambda pair: (plan.rank(pair[0]), plan.rank(pair[1])))
                self.assertEqual([verdict.taken, (verdict.source, verdict.target)], [False, first])
                net = net_of_way(shape, verdict.way)
                self.assertIsNone(told_between(net.measure, less, fill(net, less), *first))
                self.assertEqual(told_between(net.measure, plan, fill(net, plan), *first), 0)


class NetsOfWays(TestCase):
    def test_some(self):
        net = net_of_way(SHAPE, ("ac", "cb", "bd"))
        self.assertEqual(net, Net(SHAPE, Price("cost"), {"ac": 0, "cb": 0, "bd": 0}, {("ac", "cb"): 0, ("cb", "bd"): 0}))
        self.assertEqual(net_of_way(shape=SHAPE, way=("cd",)), Net(SHAPE, Price("cost"), {"cd": 0}, {}))

    def test_all_turns_between_the_roads_count(self):
        shape = Shape("abcd", [("a", "b"), ("b", "c"), ("a", "c"), ("c", "a"), ("c", "d")])
        arcs = {("a", "b"): 0, ("b", "c"): 0, ("a", "c"): 0, ("c", "a"): 0}
        self.assertEqual(net_of_way(shape, ("a", "b", "c")), Net(shape, Price("cost"), {"a": 0, "b": 0, "c": 0}, arcs))


class Cases(TestCase):
    def test_case(self):
        net, plan = Net(SHAPE, Price("cost"), {}, {}), Plan(ORDER, [])
        begins, ends = {"cb": None, "ab": 1}, ["cd", "cd"]
        case = Case(net, plan, begins, ends, None, "x")
        begins.clear()
        ends.clear()
        case.begins().clear()
        case.ends().clear()
        self.assertEqual([case.net, case.plan, case.source, case.target], [net, plan, None, "x"])
        self.assertEqual([case.begins(), case.ends()], [{"cb": None, "ab": 1}, ["cd", "cd"]])
        case = Case(net=net, plan=plan, begins={}, ends=(), source="ab", target="cd")
        self.assertEqual([case.begins(), case.ends(), case.source, case.target], [{}, [], "ab", "cd"])

    def wanted(self, sentence, a, b, c, stay):
        """The order, the arcs, the begins, the ends, the source and the target, in the words of [24]."""
        return {
            "right_unit": ("r", {}, {"r": a}, "r", None, None),
            "left_unit": ("rs", {"rs": a}, {}, "", "r", "s"),
            "order": ("yx", {}, {"x": a, "y": b}, "xy", None, None),
            "grouping": ("yzx", {}, {"x": a, "y": b, "z": c}, "xyz", None, None),
            "joining": ("yxz", {"xy": b, "yz": c}, {"x": a}, "z", None, None),
            "ring": ("xy", {"xy": stay, "yx": a}, {}, "", "x", "x"),
            "left_sharing": ("yzx", {"xy": b, "xz": c}, {"x": a}, "yz", None, None),
            "right_sharing": ("xywz", {"xz": stay, "yz": stay, "zw": c}, {"x": a, "y": b}, "w", None, None),
        }[sentence]

    def test_each_sentence(self):
        found = broken_told(43, 12)
        self.assertEqual(sorted(found), sorted(EIGHT))
        for sentence, measures in found.items():
            for measure in measures:
                refused = judge_measure(measure)
                self.assertEqual(refused.sentence, sentence)
                case = counter_case(measure, refused)
                a, b, c = refused.one, refused.two, refused.three
                order, arcs, begins, ends, source, target = self.wanted(sentence, a, b, c, measure.stay)
                arcs = {tuple(turn): arc for turn, arc in arcs.items()}
                shape = Shape(list(order), list(arcs))
                self.assertEqual(case.net, Net(shape, measure, {}, arcs))
                self.assertEqual(case.plan, Plan(list(order), low_pairs_by_walk(shape, list(order))))
                self.assertEqual([case.begins(), sorted(case.ends())], [begins, sorted(ends)])
                self.assertEqual([case.source, case.target], [source, target])
                self.assertTrue(judge_plan(shape, case.plan).taken)
                self.differs(case)

    def differs(self, case):
        """What is told differs from the plain answer, both worked out by hand, too."""
        measure, ways = case.net.measure, Ways(case.net.shape)
        table = filled_by_hand(case.net, case.plan)
        if case.source is None:
            plain = plain_by_hand(case.net, ways, case.begins(), case.ends())
            told = told_by_hand(measure, case.plan, table, case.begins(), case.ends())
        else:
            plain = plain_between_by_hand(case.net, ways, case.source, case.target)
            told = told_by_hand(measure, case.plan, table, {case.source: measure.stay}, [case.target])
        self.assertEqual([told_case(case), plain_case(case)], [told, plain])
        self.assertNotEqual(told, plain)

    def test_by_name(self):
        measure = broken_told(44, 1)["ring"][0]
        refused = judge_measure(measure)
        self.assertNotEqual(told_case(case=counter_case(measure=measure, refused=refused)), plain_case(case=counter_case(measure, refused)))

    def test_cases_of_taken_measures_agree(self):
        random = Random(45)
        for _ in range(20):
            net = some_net(random, some_shape(random, 4, 1), Price("cost"), [0, 1, 5])
            road = random.choice(net.shape.roads())
            case = Case(net, full_plan(random, net.shape), {}, [], road, random.choice(net.shape.roads()))
            self.assertEqual(told_case(case), plain_case(case))
            case = Case(net, full_plan(random, net.shape), {road: 2}, net.shape.roads(), None, None)
            self.assertEqual(told_case(case), plain_case(case))


if __name__ == "__main__":
    main()

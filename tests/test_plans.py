"""Plans, their orders, their texts, and fitting ([16] to [19])."""

from random import Random
from unittest import TestCase, main

from feeblind.charts import Chart
from feeblind.errors import BadOrder, BadPair, BadText, UnknownName
from feeblind.judging import judge_plan
from feeblind.plans import Plan, check_order, fitted, low_pairs, order_by_few, plan_of
from feeblind.shapes import Shape, shape_of
from tests.charting import EXAMPLE, some_names, some_shape
from tests.oracles import ODD
from tests.planning import any_plan, few_by_hand, full_plan, low_pairs_by_closing, low_pairs_by_walk, low_ways_by_hand, some_order

SHAPE = shape_of(Chart.read(EXAMPLE))
EMPTY = Shape([], [])
# Two letters that are names of roads of no shape here.
NO_ROADS = [value for value in ODD if value not in ("a", "car")]


class Plans(TestCase):
    def setUp(self):
        self.order = ["d", "b", "a", "c"]
        self.pairs = [("b", "a"), ("a", "b"), ("d", "c"), ("b", "a")]
        self.plan = Plan(self.order, self.pairs)

    def test_lists(self):
        self.assertEqual(self.plan.order(), ["d", "b", "a", "c"])
        self.assertEqual(self.plan.pairs(), [("a", "b"), ("b", "a"), ("d", "c")])
        self.assertEqual([self.plan.rank(road) for road in "dbac"], [0, 1, 2, 3])
        self.assertEqual(self.plan.rank(road="c"), 3)
        self.assertEqual([len(self.plan), repr(self.plan)], [3, "Plan(4 roads, 3 pairs)"])
        self.assertEqual(repr(Plan(["a", "b"], [("a", "b")])), "Plan(2 roads, 1 pairs)")

    def test_lower(self):
        for one in self.order:
            for other in self.order:
                self.assertIs(self.plan.is_lower(one, other), self.order.index(one) < self.order.index(other))
        self.assertIs(self.plan.is_lower(one="d", other="b"), True)

    def test_a_plan_without_roads_and_one_with_one(self):
        empty = Plan([], [])
        self.assertEqual([empty.order(), empty.pairs(), len(empty), bool(empty), repr(empty)], [[], [], 0, True, "Plan(0 roads, 0 pairs)"])
        self.assertEqual([empty.text(), Plan.read("order\nend\n"), Plan((), ())], ["order\nend\n", empty, empty])
        one = Plan(["a"], [])
        self.assertEqual([one.text(), one.order(), one.rank("a"), one.without("a")], ["order a\nend\n", ["a"], 0, empty])

    def test_in(self):
        for pair in (("a", "b"), ("b", "a"), ("d", "c")):
            self.assertIs(pair in self.plan, True)
        more = [("c", "d"), ("a", "c"), ["a", "b"], ("a", "b", "c"), ("a",), "ab", ("a", "x"), (["a"], "b"), ("a", ["b"]), ("a", 1), ("a", "a")]
        for value in [value for value in ODD if value != ("a", "b")] + more:
            self.assertIs(value in self.plan, False, repr(value))

    def test_equality(self):
        self.assertEqual(self.plan, Plan(order=tuple(self.order), pairs=tuple(self.pairs[::-1])))
        for other in (
            Plan(self.order, self.pairs[:1]), Plan(self.order, self.pairs + [("c", "d")]), Plan(["b", "d", "a", "c"], self.pairs),
            Plan(self.order + ["e"], self.pairs), Plan(self.order, []), self.order, None, self.plan.text(),
        ):
            self.assertNotEqual(self.plan, other)
        self.assertNotEqual(Plan(["a"], []), Plan(["b"], []))
        self.assertNotEqual(Plan(["a", "b"], []), Plan(["b", "a"], []))

    def test_without(self):
        self.assertEqual(self.plan.without("b"), Plan(["d", "a", "c"], [("d", "c")]))
        self.assertEqual(self.plan.without(road="c"), Plan(["d", "b", "a"], [("a", "b"), ("b", "a")]))
        self.assertEqual(len(self.plan), 3)

    def test_unknown_names(self):
        for value in NO_ROADS + ["e", ("a",)]:
            with self.assertRaises(UnknownName) as caught:
                self.plan.rank(value)
            self.assertIs(caught.exception.name, value)

    def test_lists_may_be_changed(self):
        for told in (self.order, self.pairs, self.plan.order(), self.plan.pairs()):
            told.clear()
        self.assertEqual(self.plan, Plan(list("dbac"), [("a", "b"), ("b", "a"), ("d", "c")]))
        self.assertEqual([len(self.plan.order()), len(self.plan.pairs())], [4, 3])

    def test_bad_orders(self):
        for value in [value for value in ODD if value not in ("a", "car", "abcdefgh")] + ["y"]:
            with self.assertRaises(BadOrder) as caught:
                Plan(["x", "y", value, "x", None], [None])
            self.assertIs(caught.exception.road, value)

    def test_bad_pairs(self):
        more = [("b", "b"), ("b", "x"), ("x", "b"), ("b", "c", "d"), ["b", "c"], ("b", None), (["b"], "c"), ("b", ["c"]), "bc"]
        for value in ODD + more:
            if value == ("a", "b"):
                continue
            wanted = value if isinstance(value, tuple) and len(value) == 2 else (value, None)
            with self.assertRaises(BadPair, msg=repr(value)) as caught:
                Plan(self.order, [("a", "b"), ("a", "b"), value, None])
            self.assertIs(caught.exception.source, wanted[0])
            self.assertIs(caught.exception.target, wanted[1])


class Texts(TestCase):
    def refused(self, text, line):
        with self.assertRaises(BadText, msg=repr(text)) as caught:
            Plan.read(text)
        self.assertEqual(caught.exception.line, line, repr(text))

    def test_text(self):
        plan = Plan(["d", "b", "a"], [("d", "b"), ("a", "d"), ("a", "b")])
        self.assertEqual(plan.text(), "order d b a\npair a b\npair a d\npair d b\nend\n")
        self.assertEqual(Plan.read(text=plan.text()), plan)

    def test_pairs_are_ascending_as_strings(self):
        plan = Plan(["a", "ab", "b", "aa"], [("a", "b"), ("aa", "a"), ("ab", "a"), ("a", "aa"), ("b", "a"), ("a", "ab")])
        lines = plan.text().split("\n")[1:-2]
        self.assertEqual(lines, sorted(lines))
        self.assertEqual(lines, ["pair a aa", "pair a ab", "pair a b", "pair aa a", "pair ab a", "pair b a"])

    def test_no_strings(self):
        for value in ODD:
            if not isinstance(value, str):
                self.refused(value, 0)

    def test_texts_that_are_cut(self):
        lines = ["order d b a", "pair a b", "pair a d", "end"]
        for at in range(4):
            begun = "".join(line + "\n" for line in lines[:at])
            self.refused(begun, at)
            for cut in range(1, len(lines[at]) + 1):
                self.refused(begun + lines[at][:cut], at)
        self.refused("", 0)

    def test_first_lines(self):
        for line in ("", "end", "order ", "order a a", "order a  b", "order a b ", " order a", "order A", "order a1", "orders a", "pair a b",
                     "order abcdefghi", "order b a b", "Order a", "order a\tb"):
            self.refused(line + "\nend\n", 0)
        Plan.read("order abcdefgh\nend\n")

    def test_pairs(self):
        for line in ("pair", "pair a", "pair a a", "pair a x", "pair x a", "pair a b c", "pair  a b", "pair a b ", "Pair a b", "pairs a b",
                     "order a b", "", "end ", " end", "pair A b", "pair b"):
            self.refused("order a b\n" + line + "\nend\n", 1)
        self.refused("order a b c\npair b a\npair a b\nend\n", 2)
        self.refused("order a b c\npair a b\npair a b\nend\n", 2)
        self.refused("order a b c\npair a c\npair a b\nend\n", 2)

    def test_lines_behind_the_end(self):
        self.refused("order\nend\n\n", 2)
        self.refused("order\nend\nend\n", 2)
        self.refused("order\nend\nx", 2)
        self.refused("order\r\nend\r\n", 0)

    def test_lines_left_out_doubled_and_exchanged(self):
        random = Random(30)
        for _ in range(40):
            plan = any_plan(random, some_shape(random, 5))
            text = plan.text()
            self.assertEqual(Plan.read(text), plan)
            self.assertEqual(text, "".join(line + "\n" for line in [
                " ".join(["order", *plan.order()]), *sorted(f"pair {u} {v}" for u, v in plan.pairs()), "end"]))
            lines = text.split("\n")[:-1]
            for at in range(len(lines)):
                doubled = lines[:at + 1] + lines[at:]
                self.refused("".join(line + "\n" for line in doubled), at + 1)
                if at + 1 < len(lines):
                    turned = lines[:at] + [lines[at + 1], lines[at]] + lines[at + 2:]
                    behind = at if at == 0 else at + 1
                    self.refused("".join(line + "\n" for line in turned), behind)
                left = lines[:at] + lines[at + 1:]
                if at == 0:
                    self.refused("".join(line + "\n" for line in left), 0)
                elif at + 1 == len(lines):
                    self.refused("".join(line + "\n" for line in left), at)
                else:
                    self.assertEqual(len(Plan.read("".join(line + "\n" for line in left))), len(plan) - 1)


class Orders(TestCase):
    def test_whole_orders(self):
        self.assertIsNone(check_order(SHAPE, ["cb", "bd", "ab", "ac", "cd"]))
        self.assertIsNone(check_order(shape=EMPTY, order=[]))
        self.assertIsNone(check_order(EMPTY, ()))

    def test_bad_orders(self):
        for call in (check_order, low_pairs, plan_of):
            for value in ODD + ["bd", "zz", ("bd",)]:
                with self.assertRaises(BadOrder) as caught:
                    call(SHAPE, ["cb", "bd", value, "cb", "cd"])
                self.assertIs(caught.exception.road, value)
            for order, road in ((["cb", "bd"], "ab"), ([], "ab"), (["ab", "cd", "ac", "cb"], "bd"), (["ab", "ab"], "ab"), (["x"], "x")):
                with self.assertRaises(BadOrder) as caught:
                    call(SHAPE, order)
                self.assertEqual(caught.exception.road, road)
            with self.assertRaises(BadOrder) as caught:
                call(EMPTY, ["a"])
            self.assertEqual(caught.exception.road, "a")

    def test_bad_orders_ahead_of_bad_spare_pairs(self):
        with self.assertRaises(BadOrder) as caught:
            plan_of(SHAPE, ["cb"], spare=[None])
        self.assertEqual(caught.exception.road, "ab")


class LowPairs(TestCase):
    def test_example(self):
        wanted = [("ab", "bd"), ("ac", "bd"), ("ac", "cb"), ("ac", "cd"), ("cb", "bd")]
        self.assertEqual(low_pairs(SHAPE, ["cb", "bd", "ab", "ac", "cd"]), wanted)
        self.assertEqual(low_pairs(shape=SHAPE, order=["bd", "cd", "ab", "ac", "cb"]), SHAPE.turns())
        self.assertEqual(low_pairs(EMPTY, []), [])

    def test_the_inner_roads_are_lower_than_both(self):
        shape = Shape("abc", [("a", "b"), ("b", "c")])
        for order, wanted in (("bac", True), ("bca", True), ("abc", False), ("acb", False), ("cba", False), ("cab", False)):
            self.assertEqual(("a", "c") in low_pairs(shape, list(order)), wanted, order)

    def test_rings(self):
        shape = Shape("abc", [("a", "b"), ("b", "a"), ("b", "c"), ("c", "b")])
        self.assertEqual(low_pairs(shape, ["b", "a", "c"]), shape.turns()[:1] + [("a", "c")] + shape.turns()[1:3] + [("c", "a"), ("c", "b")])

    def test_many(self):
        random = Random(31)
        for _ in range(60):
            shape = some_shape(random, 7)
            order = some_order(random, shape)
            wanted = low_pairs_by_walk(shape, order)
            self.assertEqual(low_pairs(shape, order), wanted)
            self.assertEqual(low_pairs_by_closing(shape, order), wanted)
            for u in order:
                for v in order:
                    if u != v:
                        self.assertEqual(bool(low_ways_by_hand(shape, order, u, v)), (u, v) in wanted)


class PlansOfOrders(TestCase):
    def test_spare_pairs(self):
        order = ["cb", "bd", "ab", "ac", "cd"]
        plan = plan_of(SHAPE, order)
        self.assertEqual([plan.order(), plan.pairs()], [order, low_pairs(SHAPE, order)])
        spare = [("cd", "ab"), ("ac", "bd"), ("cd", "ab")]
        more = plan_of(shape=SHAPE, order=order, spare=spare)
        self.assertEqual(more, Plan(order, plan.pairs() + [("cd", "ab")]))
        spare.clear()
        self.assertEqual(len(more), 6)
        self.assertEqual(plan_of(SHAPE, order, spare=()), plan)
        self.assertEqual(plan_of(EMPTY, []), Plan([], []))
        with self.assertRaises(TypeError):
            plan_of(SHAPE, order, [("cd", "ab")])

    def test_bad_pairs(self):
        for value in ODD + [("ab", "ab"), ("ab", "x"), ("x", "ab"), ["ab", "bd"]]:
            wanted = value if isinstance(value, tuple) and len(value) == 2 else (value, None)
            with self.assertRaises(BadPair) as caught:
                plan_of(SHAPE, ["cb", "bd", "ab", "ac", "cd"], spare=[("cd", "ab"), value, None])
            self.assertEqual([caught.exception.source, caught.exception.target], list(wanted))

    def test_by_few(self):
        self.assertEqual(order_by_few(SHAPE), few_by_hand(SHAPE))
        self.assertEqual(order_by_few(shape=EMPTY), [])
        self.assertEqual(order_by_few(Shape(["a"], [])), ["a"])

    def test_ties_go_by_names(self):
        self.assertEqual(order_by_few(Shape(list("dbca"), [])), list("abcd"))
        ring = Shape("abcd", [("d", "c"), ("c", "b"), ("b", "a"), ("a", "d")])
        self.assertEqual(order_by_few(ring), few_by_hand(ring))
        self.assertEqual(order_by_few(ring), list("abcd"))

    def test_pairs_that_are_put_count(self):
        # c has no outs at first; with b placed, a and c are joined both ways.
        shape = Shape("abcdef", [("a", "b"), ("b", "c"), ("c", "d"), ("d", "a"), ("a", "e"), ("e", "c"), ("c", "f"), ("f", "e"), ("e", "f")])
        self.assertEqual(order_by_few(shape), few_by_hand(shape))

    def test_by_few_many(self):
        random = Random(32)
        for _ in range(60):
            shape = some_shape(random, 9)
            order = order_by_few(shape)
            self.assertEqual(order, few_by_hand(shape))
            self.assertIsNone(check_order(shape, order))
            self.assertTrue(judge_plan(shape, plan_of(shape, order)).taken)


class Fitting(TestCase):
    def test_same_shape(self):
        plan = plan_of(SHAPE, ["cb", "bd", "ab", "ac", "cd"], spare=[("cd", "ab")])
        self.assertEqual(fitted(plan, SHAPE), plan)
        self.assertEqual(fitted(plan=Plan([], []), shape=EMPTY), Plan([], []))

    def test_missing_low_pairs_are_put(self):
        order = ["cb", "bd", "ab", "ac", "cd"]
        self.assertEqual(fitted(Plan(order, [("cd", "ab")]), SHAPE), plan_of(SHAPE, order, spare=[("cd", "ab")]))

    def test_fewer_and_new_roads(self):
        plan = Plan(["c", "a", "x", "b", "y"], [("a", "b"), ("x", "a"), ("b", "y"), ("c", "b"), ("x", "y")])
        shape = Shape("abcde", [("b", "e"), ("e", "d"), ("a", "d")])
        self.assertEqual(fitted(plan, shape), Plan(list("cabde"), [("a", "b"), ("c", "b"), ("b", "e"), ("e", "d"), ("a", "d")]))
        self.assertEqual(fitted(plan, EMPTY), Plan([], []))
        self.assertEqual(fitted(Plan([], []), Shape("ba", [("b", "a")])), Plan(["a", "b"], [("b", "a")]))

    def test_many(self):
        random = Random(33)
        for _ in range(60):
            old, new = some_shape(random, 6), some_shape(random, 6)
            plan = any_plan(random, old)
            told = fitted(plan, new)
            order = [road for road in plan.order() if road in new.roads()]
            order += sorted(set(new.roads()) - set(order))
            pairs = {pair for pair in plan.pairs() if pair[0] in new.roads() and pair[1] in new.roads()}
            self.assertEqual(told, Plan(order, list(pairs | set(low_pairs_by_walk(new, order)))))
            self.assertTrue(judge_plan(new, told).taken)

    def test_fewer_roads_need_no_new_pairs(self):
        random = Random(34)
        for _ in range(40):
            shape = some_shape(random, 7, 1)
            plan = full_plan(random, shape)
            road = random.choice(shape.roads())
            less = shape.without(road)
            self.assertTrue(judge_plan(less, plan.without(road)).taken)
            self.assertEqual(fitted(plan, less), plan.without(road))

    def test_large(self):
        names = some_names(Random(35), 120)
        shape = Shape(names, list(zip(names, names[1:])) + list(zip(names[60:], names)))
        self.assertTrue(judge_plan(shape, plan_of(shape, order_by_few(shape))).taken)


if __name__ == "__main__":
    main()

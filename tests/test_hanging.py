"""What hangs on a road ([36]): the price through it, slack, needed roads and detours, against least sums by listing."""

from random import Random
from unittest import TestCase, main

from feeblind.charts import Chart
from feeblind.hanging import detours, needed_roads, slack, through
from feeblind.nets import Net, net_of
from feeblind.shapes import Shape
from tests.charting import EXAMPLE, plain_by_hand
from tests.pricing import PRICE, added, price_case, price_closed, price_from, price_to

NET = net_of(Chart.read(EXAMPLE), PRICE)
BEGINS, ENDS = {"ab": 3, "ac": 1}, ["bd", "cd"]


class Plain(TestCase):
    def test_through_and_slack(self):
        roads = NET.shape.roads()
        self.assertEqual([through(NET, BEGINS, ENDS, road) for road in roads], [5, 4, 4, 4, 6])
        self.assertEqual([slack(NET, BEGINS, ENDS, road) for road in roads], [1, 0, 0, 0, 2])
        self.assertEqual([through(net=NET, begins=BEGINS, ends=ENDS, road="ab"), slack(net=NET, begins=BEGINS, ends=ENDS, road="cd")], [5, 2])

    def test_through_may_have_a_road_twice(self):
        shape = Shape("abc", [("a", "b"), ("b", "a"), ("a", "c")])
        net = Net(shape, PRICE, {}, {("a", "b"): 2, ("b", "a"): 3, ("a", "c"): 4})
        self.assertEqual([through(net, {"a": 1}, ["c"], "b"), slack(net, {"a": 1}, ["c"], "b")], [10, 5])

    def test_no_number(self):
        self.assertEqual([through(NET, BEGINS, ["cd"], "ab"), slack(NET, BEGINS, ["cd"], "ab")], [None, None])
        self.assertEqual([through(NET, {"cb": 1}, ["bd"], "ac"), slack(NET, {"cb": 1}, ["bd"], "ac")], [None, None])
        for begins, ends in (({}, ENDS), (BEGINS, []), ({"ab": None}, ENDS), ({"bd": 1}, ["ac"])):
            self.assertEqual([through(NET, begins, ends, "bd"), slack(NET, begins, ends, "bd"), needed_roads(NET, begins, ends)], [None, None, []])

    def test_needed(self):
        self.assertEqual(needed_roads(net=NET, begins=BEGINS, ends=ENDS), ["ac", "bd", "cb"])
        self.assertEqual(needed_roads(NET, {"ab": 2, "ac": 1}, ENDS), ["bd"])
        self.assertEqual(needed_roads(NET, {"bd": 0, "ab": 9}, ["bd"]), ["bd"])
        self.assertEqual(needed_roads(NET, {"bd": 4, "cd": 4}, ENDS), [])
        self.assertEqual(needed_roads(Net(Shape([], []), PRICE, {}, {}), {}, []), [])

    def test_detours(self):
        told = detours(net=NET, begins=BEGINS, ends=ENDS, way=("ac", "cb", "bd"))
        self.assertEqual(list(told.items()), [("ac", 5), ("bd", 6), ("cb", 5)])
        self.assertEqual(detours(NET, BEGINS, ENDS, ("ab",)), {"ab": 4})
        self.assertEqual(detours(NET, {"ab": 3}, ENDS, ("ab", "bd")), {"ab": None, "bd": None})
        self.assertEqual(detours(NET, {"ab": None}, ENDS, ("cb", "bd")), {"cb": None, "bd": None})
        shape = Shape("abc", [("a", "b"), ("b", "a"), ("a", "c")])
        net = Net(shape, PRICE, {}, {("a", "b"): 2, ("b", "a"): 3, ("a", "c"): 4})
        self.assertEqual(detours(net, {"a": 1}, ["c"], ("a", "b", "a", "c")), {"a": None, "b": 5, "c": None})

    def test_a_closed_road_is_no_begin_and_no_end(self):
        net = Net(Shape("ab", [("a", "b")]), PRICE, {}, {("a", "b"): 1})
        self.assertEqual(detours(net, {"a": 0, "b": 5}, ["b", "a"], ("a", "b")), {"a": 5, "b": 0})
        self.assertEqual([needed_roads(net, {"a": 0, "b": 5}, ["b", "a"]), needed_roads(net, {"a": 0, "b": 0}, ["b", "a"])], [["a"], []])

    def test_what_is_passed_stays(self):
        begins, ends = {"ab": 3, "ac": None}, ["bd", "bd"]
        for call in (lambda: through(NET, begins, ends, "ab"), lambda: slack(NET, begins, ends, "ab"), lambda: needed_roads(NET, begins, ends).clear(), lambda: detours(NET, begins, ends, ("ab", "bd")).clear()):
            call()
        self.assertEqual([begins, ends], [{"ab": 3, "ac": None}, ["bd", "bd"]])


class Many(TestCase):
    def test_many(self):
        random = Random(160)
        seen = []
        for _ in range(200):
            net, ways, begins, ends = price_case(random)
            roads = net.shape.roads()
            price = plain_by_hand(net, ways, begins, ends)
            closed = {road: price_closed(net, ways, begins, ends, [road]) for road in roads}
            for road in roads:
                whole = added(price_to(net, ways, begins, road), price_from(net, ways, ends, road))
                self.assertEqual(through(net, begins, ends, road), whole)
                self.assertEqual(slack(net, begins, ends, road), None if whole is None else whole - price)
            needed = [road for road in roads if price is not None and closed[road] != price]
            self.assertEqual(needed_roads(net, begins, ends), needed)
            seen.append(len(needed))
            for way in ways.answering({road: 0 for road in roads}, roads)[:9]:
                self.assertEqual(list(detours(net, begins, ends, way).items()), [(road, closed[road]) for road in sorted(way)])
        self.assertGreater(min(seen.count(0), len(seen) - seen.count(0)), 30)


if __name__ == "__main__":
    main()

"""Bounds, their judge and mending ([33]), led search ([34]), landmarks and the greatest of bounds ([35])."""

from random import Random
from unittest import TestCase, main

from feeblind.bounds import greatest_bounds, judge_bounds, landmark_bounds, led, mend
from feeblind.charts import Chart
from feeblind.errors import BoundsNotTaken
from feeblind.nets import Net, begins_at, ends_at, net_of
from feeblind.plain import plain_answer
from feeblind.shapes import Shape
from feeblind.verdicts import BoundsRefused, BoundsTaken
from tests.charting import EXAMPLE, Ways, plain_between_by_hand, plain_by_hand, some_charts
from tests.pricing import PRICE, SMALL, added, at_most, least, price_case, price_from, price_net, price_to

CHART = Chart.read(EXAMPLE)
NET = net_of(CHART, PRICE)
EMPTY = Net(Shape([], []), PRICE, {}, {})


def some_bounds(random, roads):
    """Any bounds: some roads without a row, some None."""
    return {road: random.choice(SMALL + [None, 0, 0]) for road in roads if random.random() < 0.8}


def judged_by_hand(net, ends, bounds):
    """The verdict, in the words of [33]."""
    for end in sorted(ends):
        if end in bounds and (bounds[end] is None or bounds[end] != 0):
            return BoundsRefused(end, None)
    for u, v in net.shape.turns():
        if not at_most(bounds.get(u, 0), added(net.arc(u, v), bounds.get(v, 0))):
            return BoundsRefused(u, v)
    return BoundsTaken()


class Judge(TestCase):
    def test_some(self):
        self.assertEqual(judge_bounds(net=NET, ends=["bd", "cd"], bounds={}), BoundsTaken())
        self.assertEqual(judge_bounds(NET, ["bd", "cd"], {"ab": 2, "ac": 3, "cb": 2, "bd": 0}), BoundsTaken())
        self.assertEqual(judge_bounds(NET, ["bd", "cd"], {"ab": 3, "ac": 9}), BoundsRefused("ab", "bd"))
        self.assertEqual(judge_bounds(NET, ["cd", "bd"], {"ab": 3, "bd": 1, "cd": 1}), BoundsRefused("bd", None))
        self.assertEqual(judge_bounds(NET, ["cd"], {"bd": None, "ab": None, "cb": None, "ac": 5}), BoundsTaken())
        self.assertEqual(judge_bounds(NET, ["cd"], {"cd": None}), BoundsRefused("cd", None))
        self.assertEqual([judge_bounds(EMPTY, [], {}), judge_bounds(NET, [], {}), judge_bounds(NET, ["ab", "ab"], {"ab": 0})], [BoundsTaken()] * 3)

    def test_none_is_at_most_none_alone(self):
        net = Net(Shape("ab", [("a", "b")]), PRICE, {}, {("a", "b"): 1})
        self.assertEqual(judge_bounds(net, ["b"], {"a": None}), BoundsRefused("a", "b"))
        self.assertEqual(judge_bounds(net, [], {"a": None, "b": None}), BoundsTaken())
        self.assertEqual(judge_bounds(net, [], {"b": None, "a": 10 ** 12}), BoundsTaken())
        net = net.with_arcs({("a", "b"): None})
        self.assertEqual(judge_bounds(net, ["b"], {"a": None}), BoundsTaken())
        self.assertEqual(judge_bounds(net, ["b"], {"a": 10 ** 12}), BoundsTaken())

    def test_many(self):
        random = Random(150)
        seen = []
        for _ in range(400):
            net, _, _, ends = price_case(random)
            for bounds in (some_bounds(random, net.shape.roads()), mend(net, ends, some_bounds(random, net.shape.roads()))):
                verdict = judge_bounds(net, ends, bounds)
                self.assertEqual(verdict, judged_by_hand(net, ends, bounds))
                seen.append(verdict.taken)
        self.assertGreater(min(seen.count(True), seen.count(False)), 100)

    def test_taken_bounds_are_at_most_the_price(self):
        random = Random(151)
        for _ in range(100):
            net, ways, _, ends = price_case(random)
            bounds = mend(net, ends, some_bounds(random, net.shape.roads()))
            for road in net.shape.roads():
                self.assertTrue(at_most(bounds[road], price_from(net, ways, ends, road)))


class Mending(TestCase):
    def test_some(self):
        self.assertEqual(mend(net=NET, ends=["bd"], bounds={"ab": 9, "ac": 9, "bd": 9, "cb": None, "cd": None}), {"ab": 2, "ac": 3, "bd": 0, "cb": 2, "cd": None})
        self.assertEqual(list(mend(NET, ["bd"], {"cd": 1, "ab": 1})), ["ab", "ac", "bd", "cb", "cd"])
        self.assertEqual(mend(NET, ["bd"], {}), {"ab": 0, "ac": 0, "bd": 0, "cb": 0, "cd": 0})
        self.assertEqual(mend(NET, [], {road: None for road in NET.shape.roads()}), {road: None for road in NET.shape.roads()})
        self.assertEqual([mend(EMPTY, [], {}), mend(Net(Shape(["a"], []), PRICE, {}, {}), ["a", "a"], {"a": None})], [{}, {"a": 0}])

    def test_many(self):
        random = Random(152)
        for _ in range(150):
            net, ways, _, ends = price_case(random)
            roads = net.shape.roads()
            old = some_bounds(random, roads)
            given = {road: 0 if road in ends else old.get(road, 0) for road in roads}
            wanted = {u: least(added(plain_between_by_hand(net, ways, u, v), given[v]) for v in roads) for u in roads}
            told = mend(net, ends, old)
            self.assertEqual(list(told.items()), list(wanted.items()))
            self.assertTrue(judge_bounds(net, ends, told).taken)
            self.assertTrue(all(at_most(told[road], old.get(road, 0)) for road in roads))

    def test_no_greater_ones_are_taken(self):
        random = Random(153)
        for _ in range(100):
            net, _, _, ends = price_case(random, 4)
            old = some_bounds(random, net.shape.roads())
            told = mend(net, ends, old)
            for road in told:
                for more in (None if told[road] is None else told[road] + 1, None):
                    greater = {**told, road: more}
                    if greater != told and at_most(more, old.get(road, 0)):
                        self.assertFalse(judge_bounds(net, ends, greater).taken)


class Greatest(TestCase):
    def test_some(self):
        self.assertEqual(greatest_bounds(), {})
        self.assertEqual(greatest_bounds({}), {})
        told = greatest_bounds({"b": 3, "a": 1, "d": None}, {"b": 2, "c": 5, "d": 7}, {"b": None})
        self.assertEqual(list(told.items()), [("a", 1), ("b", None), ("c", 5), ("d", None)])
        self.assertEqual(greatest_bounds({"a": 4}, {"a": 4}), {"a": 4})
        self.assertEqual(greatest_bounds({"a": 0}, {}, {"b": 0}), {"a": 0, "b": 0})

    def test_of_taken_ones_it_is_taken(self):
        random = Random(154)
        for _ in range(100):
            net, _, _, ends = price_case(random)
            tables = [mend(net, ends, some_bounds(random, net.shape.roads())) for _ in range(random.randint(1, 3))]
            told = greatest_bounds(*tables)
            self.assertTrue(judge_bounds(net, ends, told).taken)
            for road in told:
                bounds = [table[road] for table in tables]
                self.assertEqual(told[road], None if None in bounds else max(bounds))

    def test_what_is_told_may_be_changed(self):
        bounds = {"a": 1}
        greatest_bounds(bounds).clear()
        mend(NET, ["bd"], bounds).clear()
        self.assertEqual(bounds, {"a": 1})


class Landmarks(TestCase):
    def by_hand(self, net, ways, landmarks, goal):
        """The bounds, in the words of [35]."""
        def d(u, v):
            return plain_between_by_hand(net, ways, u, v)
        found = {}
        for u in net.shape.roads():
            bounds = [0]
            for mark in landmarks:
                if d(mark, u) is not None and d(mark, goal) is None or d(goal, mark) is not None and d(u, mark) is None:
                    bounds.append(None)
                if d(mark, goal) is not None and d(mark, u) is not None:
                    bounds.append(d(mark, goal) - d(mark, u))
                if d(u, mark) is not None and d(goal, mark) is not None:
                    bounds.append(d(u, mark) - d(goal, mark))
            found[u] = None if None in bounds else max(bounds)
        return found

    def test_some(self):
        zeros = {road: 0 for road in NET.shape.roads()}
        self.assertEqual(landmark_bounds(net=NET, landmarks=[], goal="bd"), zeros)
        self.assertEqual(landmark_bounds(NET, ["ac"], "bd"), {"ab": 0, "ac": 3, "bd": 0, "cb": 2, "cd": 0})
        self.assertEqual(landmark_bounds(NET, ["bd"], "bd"), {"ab": 2, "ac": 3, "bd": 0, "cb": 2, "cd": None})
        self.assertEqual(landmark_bounds(NET, ["bd", "bd", "ac"], "bd"), landmark_bounds(NET, ("ac", "bd"), "bd"))
        self.assertEqual(landmark_bounds(NET, ["cd"], "ab"), {"ab": 0, "ac": 0, "bd": 0, "cb": 0, "cd": None})
        self.assertEqual(landmark_bounds(Net(Shape(["a"], []), PRICE, {}, {}), ["a"], "a"), {"a": 0})

    def test_many(self):
        random = Random(155)
        for _ in range(150):
            net = price_net(random)
            roads, ways = net.shape.roads(), Ways(net.shape)
            goal = random.choice(roads)
            landmarks = [random.choice(roads) for _ in range(random.randint(0, 3))]
            told = landmark_bounds(net, landmarks, goal)
            self.assertEqual(list(told.items()), list(self.by_hand(net, ways, landmarks, goal).items()))
            self.assertTrue(judge_bounds(net, [goal], told).taken)
            risen = {turn: random.choice([value, value + random.choice(SMALL), None]) for turn, value in net.arcs().items()}
            self.assertTrue(judge_bounds(net.with_arcs(risen), [goal], told).taken)


class Led(TestCase):
    def look(self, net, ways, begins, ends, bounds):
        """The price and the settled roads against the words of [34]."""
        price, settled = led(net, begins, ends, bounds)
        self.assertEqual(price, plain_by_hand(net, ways, begins, ends))
        prices = {road: price_to(net, ways, begins, road) for road in net.shape.roads()}
        reach = {road: added(prices[road], bounds.get(road, 0)) for road in prices}
        self.assertIs(type(settled), list)
        roads = [road for road, _ in settled]
        self.assertEqual(settled, [(road, prices[road]) for road in roads])
        self.assertEqual(len(set(roads)), len(roads))
        reaches = [reach[road] for road in roads]
        self.assertNotIn(None, reaches)
        self.assertEqual(reaches, sorted(reaches))
        needed = {road for road in reach if reach[road] is not None and (price is None or reach[road] < price)}
        self.assertLessEqual(needed, set(roads))
        self.assertTrue(price is None or all(one <= price for one in reaches))

    def test_example(self):
        begins, ends = begins_at(CHART, NET, "a"), ends_at(CHART, "d")
        price, settled = led(net=NET, begins=begins, ends=ends, bounds={})
        self.assertEqual([price, settled[:3]], [4, [("ac", 1), ("cb", 2), ("ab", 3)]])
        bounds = mend(NET, ends, {road: 90 for road in NET.shape.roads()})
        price, settled = led(NET, begins, ends, bounds)
        self.assertEqual([price, ("ab", 3) in settled], [4, False])

    def test_refused(self):
        for ends, bounds in ((["bd"], {"bd": 1}), (["bd"], {"ab": 3}), (["cd"], {"ac": None})):
            with self.assertRaises(BoundsNotTaken) as caught:
                led(NET, {"ac": 1}, ends, bounds)
            self.assertEqual(caught.exception.refused, judge_bounds(NET, ends, bounds))
            self.assertFalse(caught.exception.refused.taken)

    def test_edges(self):
        self.assertEqual(led(EMPTY, {}, [], {}), (None, []))
        self.assertEqual(led(NET, {}, ["bd"], {}), (None, []))
        self.assertEqual(led(NET, {"ac": None}, ["bd"], {}), (None, []))
        price, settled = led(NET, {"ac": 4}, [], {})
        self.assertEqual([price, sorted(settled)], [None, [("ac", 4), ("bd", 7), ("cb", 5), ("cd", 9)]])
        self.assertEqual(led(NET, {"bd": 5}, ["ac"], {})[0], None)
        self.assertEqual(led(NET, {"bd": 5, "ac": None}, ["bd", "bd"], {})[0], 5)
        # From roads with the bound None surely no way goes on.
        price, settled = led(NET, {"cd": 0, "ac": 9}, ["bd"], {"cd": None})
        self.assertEqual([price, [road for road, _ in settled if road == "cd"]], [12, []])

    def test_many(self):
        random = Random(156)
        seen = []
        for _ in range(300):
            net, ways, begins, ends = price_case(random)
            roads = net.shape.roads()
            mended = mend(net, ends, some_bounds(random, roads))
            rows_above = {road: bound for road, bound in mended.items() if bound != 0}
            for bounds in ({}, mended, rows_above, mend(net, ends, {road: None for road in roads})):
                self.look(net, ways, begins, ends, bounds)
            seen.append(plain_by_hand(net, ways, begins, ends))
        self.assertGreater(min(seen.count(None), len(seen) - seen.count(None)), 30)

    def test_charts(self):
        for chart in some_charts(157, 6, 60, "abcdefghijklmnop"):
            net = net_of(chart, PRICE)
            for start, goal in (("a", "b"), ("c", "h"), ("j", "a")):
                begins, ends = begins_at(chart, net, start), ends_at(chart, goal)
                bounds = greatest_bounds(*[mend(net, ends, {road: 9 for road in net.shape.roads()})])
                self.assertEqual(led(net, begins, ends, bounds)[0], plain_answer(net, begins, ends))

    def test_what_is_passed_stays(self):
        begins, ends, bounds = {"ac": 1, "ab": None}, ["bd", "bd"], {"ac": 1}
        led(NET, begins, ends, bounds)[1].clear()
        self.assertEqual([begins, ends, bounds], [{"ac": 1, "ab": None}, ["bd", "bd"], {"ac": 1}])
        self.assertEqual(led(NET, begins, ends, bounds), led(NET, begins, ends, bounds))


if __name__ == "__main__":
    main()

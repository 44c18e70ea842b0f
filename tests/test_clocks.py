"""Clocks, ways for a time, and latest begins ([43]), against a walk tick by tick."""

from random import Random
from unittest import TestCase, main

from feeblind.charts import Chart
from feeblind.clocks import clock, way_at
from feeblind.hours import Hours, hours_of, latest_begin, read_hours
from feeblind.nets import Net, begins_at, ends_at, net_of
from feeblind.plain import plain_answer, worth_from
from feeblind.roads import Road, Rule
from feeblind.shapes import Shape
from tests.charting import Ways, some_charts
from tests.oracles import walked
from tests.samples import hours_values

DAY = 6
# From a to d by way of b, which opens late, or by way of c.
CHART = Chart(
    [
        Road("ab", "a", "b", windows=[(1, 2)]), Road("bd", "b", "d"), Road("ac", "a", "c"), Road("cb", "c", "b", windows=[(2, 4)]),
        Road("cd", "c", "d", ticks=3), Road("dd", "d", "d", windows=[]), Road("de", "d", "e", windows=[]),
    ],
    [Rule("ac", "cb", ticks=2)],
)
NET = net_of(CHART, Hours(DAY))
BEGINS, ENDS = begins_at(CHART, NET, "a"), ends_at(CHART, "d")
TIMES = [-1000000, -7, -1, 0, 1, 2, 3, 4, 5, 6, 7, 11, 12, 999999, 1000000]


def clock_by_hand(chart, day, way, t):
    """The times at which one is through each road, waiting time by time; None where a road never opens."""
    times = []
    for at, name in enumerate(way):
        rule = chart.rule(way[at - 1], name) if at else None
        if rule is not None:
            t += rule.ticks
        road = chart.road_named(name)
        t = walked(day, road.windows(), road.ticks, t)
        if t is None:
            return None
        times.append(t)
    return tuple(times)


class Plain(TestCase):
    def test_clocks(self):
        self.assertEqual([clock(NET, BEGINS, ("ab", "bd"), t) for t in (0, 1, 2, 5, 6, 7)], [(2, 3), (2, 3), (8, 9), (8, 9), (8, 9), (8, 9)])
        self.assertEqual(clock(net=NET, begins=BEGINS, way=("ac", "cb", "bd"), t=0), (1, 4, 5))
        self.assertEqual([clock(NET, BEGINS, ("ac", "cd"), t) for t in (0, -1, -6, 1000000)], [(1, 4), (0, 3), (-5, -2), (1000001, 1000004)])
        self.assertEqual(clock(NET, {"bd": (5, 5, 7, 8, 9, 10), "ab": None}, ("bd",), 7), (11,))

    def test_ways(self):
        self.assertEqual([way_at(NET, BEGINS, ENDS, t) for t in (1, 2)], [("ab", "bd"), ("ac", "cd")])
        self.assertEqual(way_at(net=NET, begins=BEGINS, ends=ENDS, t=-5), ("ab", "bd"))
        self.assertEqual(way_at(NET, {"bd": (0, 1, 2, 3, 4, 5)}, ["bd", "bd"], 3), ("bd",))

    def test_no_way(self):
        for begins, ends in (({}, ENDS), (BEGINS, []), ({"ab": None}, ENDS), (BEGINS, ["de"]), ({"bd": (0, 1, 2, 3, 4, 5)}, ["ac"])):
            self.assertIsNone(way_at(NET, begins, ends, 0))
        self.assertIsNone(way_at(Net(Shape([], []), Hours(1), {}, {}), {}, [], 5))

    def test_windows_that_never_open(self):
        self.assertIsNone(begins_at(CHART, NET, "d").get("de"))
        self.assertIsNone(way_at(NET, begins_at(CHART, NET, "d"), ends_at(CHART, "e"), 0))
        # A window that lies behind the day never opens, either.
        chart = Chart([Road("ab", "a", "b"), Road("bc", "b", "c", windows=[(6, 9)])])
        for day, way in ((6, None), (7, ("ab", "bc"))):
            net = net_of(chart, Hours(day))
            self.assertEqual(way_at(net, begins_at(chart, net, "a"), ends_at(chart, "c"), 0), way)

    def test_what_is_passed_stays(self):
        begins, ends = {**BEGINS, "de": None}, ["bd", "bd"]
        self.assertEqual(way_at(NET, begins, ends, 3), way_at(NET, begins, ends, 3))
        clock(NET, begins, ("ab", "bd"), 3)
        self.assertEqual([begins, ends], [{**BEGINS, "de": None}, ["bd", "bd"]])


class Many(TestCase):
    def look(self, chart, day, start, goal, t):
        """A way for a time, and the clocks of all ways, against walks; whether there is a way."""
        net = net_of(chart, Hours(day), wheel="tram")
        begins, ends = begins_at(chart, net, start), ends_at(chart, goal)
        through = []
        for way in Ways(net.shape).answering(begins, ends):
            if worth_from(net, begins[way[0]], way) is not None:
                times = clock_by_hand(chart, day, way, t)
                self.assertEqual(clock(net, begins, way, t), times)
                self.assertEqual(read_hours(worth_from(net, begins[way[0]], way), t), times[-1])
                through.append(times[-1])
        value, way = plain_answer(net, begins, ends), way_at(net, begins, ends, t)
        self.assertEqual([value is None, way is None], [not through, not through])
        if through:
            self.assertEqual(read_hours(value, t), min(through))
            self.assertEqual(clock(net, begins, way, t)[-1], min(through))
            self.assertTrue(net.shape.is_way(way) and len(set(way)) == len(way) and way[0] in begins and way[-1] in ends)
        return bool(through)

    def test_charts(self):
        random = Random(210)
        seen = []
        for chart in some_charts(211, 60, 7, "abc"):
            roads = [Road(r.name, r.tail, r.head, ticks=r.ticks, windows=r.windows()) for r in chart.roads()]
            made = Chart(roads, [Rule(rule.source, rule.target, ticks=rule.ticks) for rule in chart.rules()])
            day = random.choice([1, 4, 7, 12, 96])
            for t in random.sample(TIMES, 4) + [day - 1, day]:
                start, goal = random.sample("abc", 2)
                seen.append(self.look(made, day, start, goal, t))
        self.assertGreater(min(seen.count(True), seen.count(False)), 50)

    def test_if_one_begins_later_one_is_never_through_earlier(self):
        for way in (("ab", "bd"), ("ac", "cb", "bd"), ("ac", "cd")):
            clocks = [clock(NET, BEGINS, way, t) for t in range(-10, 20)]
            for one, other in zip(clocks, clocks[1:]):
                self.assertTrue(all(left <= right for left, right in zip(one, other)))

    def test_latest_begins(self):
        values = [value for day in (1, 2, 6) for value in hours_values(day)] + [hours_of(6, [(5, 6)], 960), hours_of(96, None, 0)]
        for value in values:
            for end in TIMES:
                t = latest_begin(value, end)
                self.assertTrue(read_hours(value, t) <= end < read_hours(value, t + 1), (value, end))

    def test_a_large_chart(self):
        chart = some_charts(212, 1, 110, "abcdefghijklmnopqrstuvwxyz")[0]
        net = net_of(chart, Hours(24))
        for start, goal in (("a", "b"), ("c", "h"), ("z", "a")):
            begins, ends = begins_at(chart, net, start), ends_at(chart, goal)
            value = plain_answer(net, begins, ends)
            for t in (-5, 0, 30):
                way = way_at(net, begins, ends, t)
                self.assertEqual(value is None, way is None)
                if way is not None:
                    self.assertEqual(clock(net, begins, way, t)[-1], read_hours(value, t))


if __name__ == "__main__":
    main()

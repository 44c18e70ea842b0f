"""Shapes, ways, simple ways, and cutting the rings ([11])."""

from random import Random
from unittest import TestCase, main

from feeblind.charts import Chart
from feeblind.errors import BadName, NoTurn, TakenName
from feeblind.roads import Road, Rule
from feeblind.shapes import Shape, cut_rings, shape_of, simple_ways
from tests.charting import EXAMPLE, all_simple_ways, some_charts, some_shape
from tests.oracles import ODD


class Plain(TestCase):
    def setUp(self):
        self.roads = ["c", "a", "d", "b"]
        self.turns = [("c", "a"), ("a", "b"), ("b", "a"), ("a", "c"), ("a", "b")]
        self.shape = Shape(self.roads, self.turns)

    def test_lists(self):
        self.assertEqual(self.shape.roads(), ["a", "b", "c", "d"])
        self.assertEqual(self.shape.turns(), [("a", "b"), ("a", "c"), ("b", "a"), ("c", "a")])
        self.assertEqual([self.shape.following(road) for road in "abcd"], [["b", "c"], ["a"], ["a"], []])
        self.assertEqual([self.shape.leading(road=road) for road in "abcd"], [["b", "c"], ["a"], ["a"], []])
        self.assertEqual(Shape("ab", [("a", "b")]).leading("b"), ["a"])
        self.assertEqual(Shape("ab", [("a", "b")]).following(road="a"), ["b"])

    def test_len_and_repr(self):
        self.assertEqual([len(self.shape), repr(self.shape)], [4, "Shape(4 roads, 4 turns)"])
        self.assertEqual(repr(Shape(["a", "b"], [("a", "b")])), "Shape(2 roads, 1 turns)")
        empty = Shape([], [])
        self.assertEqual([len(empty), bool(empty), repr(empty)], [0, True, "Shape(0 roads, 0 turns)"])
        self.assertEqual([empty.roads(), empty.turns(), Shape((), ()) == empty], [[], [], True])

    def test_equality(self):
        self.assertEqual(self.shape, Shape(roads=tuple(self.roads[::-1]), turns=tuple(self.turns[::-1])))
        for other in (Shape("abc", self.turns), Shape("abcd", self.turns[:2]), Shape("abcde", self.turns),
                      Shape("abcd", self.turns + [("d", "a")]), Shape("abcd", []), self.roads, None):
            self.assertNotEqual(self.shape, other)
        self.assertNotEqual(Shape(["a"], []), Shape(["b"], []))
        self.assertNotEqual(Shape("ab", [("a", "b")]), Shape("ab", [("b", "a")]))

    def test_in(self):
        for value in ODD:
            self.assertIs(value in self.shape, value == "a", repr(value))
        self.assertIs(("a", "b") in self.shape, False)

    def test_without(self):
        self.assertEqual(self.shape.without("a"), Shape("bcd", []))
        self.assertEqual(self.shape.without("b"), Shape("acd", [("a", "c"), ("c", "a")]))
        self.assertEqual(self.shape.without(road="d"), Shape("abc", self.turns))
        self.assertEqual(Shape(["a"], []).without("a"), Shape([], []))
        self.assertEqual(len(self.shape), 4)

    def test_ways(self):
        for way in (("a",), ("d",), ("a", "b"), ("a", "b", "a", "c"), ("c", "a", "c", "a", "b")):
            self.assertIs(self.shape.is_way(way), True)
        bad = [("e",), (), ("b", "c"), ("a", "a"), ("a", "b", "c"), ("a", "d"), ["a"], ["a", "b"], "a", "ab", ("a", None),
               (("a",),), (["a"], "b"), ("a", 1), ("a", True), ({"a": 1},), ("a", "b", ()), ("e", "a"), ("a", "e"), {"a": "b"}]
        for value in bad + [value for value in ODD if value != ("a",) and value != ("a", "b")]:
            self.assertIs(self.shape.is_way(value), False, repr(value))
        self.assertIs(Shape([], []).is_way(()), False)

    def test_lists_may_be_changed(self):
        before = Shape(list(self.roads), list(self.turns))
        for told in (self.roads, self.turns, self.shape.roads(), self.shape.turns(), self.shape.following("a"), self.shape.leading("a")):
            told.clear()
        self.assertEqual(self.shape, before)
        self.assertEqual([self.shape.following("a"), self.shape.leading("a")], [["b", "c"], ["b", "c"]])
        self.assertEqual([len(self.shape.roads()), len(self.shape.turns())], [4, 4])


class Errors(TestCase):
    def test_names(self):
        for value in ODD:
            if value in ("a", "car", "abcdefgh"):
                continue
            with self.assertRaises(BadName) as caught:
                Shape(["b", "b", value, None], [("p", "q")])
            self.assertIs(caught.exception.value, value)

    def test_taken(self):
        with self.assertRaises(TakenName) as caught:
            Shape(["a", "b", "c", "b", "a"], [None])
        self.assertEqual(caught.exception.name, "b")

    def test_turns(self):
        for value in ODD + [("b", "b"), ("b", "e"), ("e", "b"), ("b", "c", "d"), ["b", "c"], (1, 2), ("b", None), ("b", ["c"]), (["b"], "c"), ("b", 0), (0, "b"), "bc"]:
            if value == ("a", "b"):
                continue
            wanted = value if isinstance(value, tuple) and len(value) == 2 else (value, None)
            with self.assertRaises(NoTurn, msg=repr(value)) as caught:
                Shape(["b", "c", "a"], [("b", "c"), ("b", "c"), value, None])
            self.assertIs(caught.exception.source, wanted[0])
            self.assertIs(caught.exception.target, wanted[1])


class OfCharts(TestCase):
    def test_only_roads_and_turns_count(self):
        one = Chart.read(EXAMPLE)
        other = Chart([Road(road.name, road.tail, road.head, wheels=[], windows=[]) for road in one], [Rule("ab", "bd", wheels=[])])
        self.assertEqual(shape_of(one), shape_of(chart=other))
        self.assertEqual(shape_of(one), Shape(["ab", "ac", "bd", "cb", "cd"], [("ab", "bd"), ("ac", "cb"), ("ac", "cd"), ("cb", "bd")]))
        self.assertEqual(shape_of(Chart()), Shape([], []))

    def test_many(self):
        for chart in some_charts(7, 30):
            shape = shape_of(chart)
            self.assertEqual([shape.roads(), shape.turns()], [chart.names(), chart.turns()])
            for road in shape.roads():
                self.assertEqual(shape.following(road), [v for u, v in chart.turns() if u == road])
                self.assertEqual(shape.leading(road), [u for u, v in chart.turns() if v == road])
                left = shape.without(road)
                self.assertEqual(left.roads(), [name for name in chart.names() if name != road])
                self.assertEqual(left.turns(), [turn for turn in chart.turns() if road not in turn])


def cut_by_hand(way):
    """A way without its rings: what lies between a road and its last coming is left out."""
    kept = []
    left = list(way)
    while left:
        road = left[0]
        at = max(at for at, other in enumerate(left) if other == road)
        kept.append(road)
        left = left[at + 1:]
    return tuple(kept)


class Rings(TestCase):
    def test_some(self):
        for way, wanted in (
            ("a", "a"), ("ab", "ab"), ("aba", "a"), ("abac", "ac"), ("abcbd", "abd"), ("abcab", "ab"), ("abcdcbe", "abe"),
            ("abab", "ab"), ("abcacbd", "acbd"),
        ):
            self.assertEqual(cut_rings(tuple(way)), tuple(wanted))
        self.assertEqual(cut_rings(way=("x", "y", "x")), ("x",))

    def test_many(self):
        random = Random(8)
        for _ in range(300):
            way = [random.choice("abcde")]
            for _ in range(random.randint(0, 12)):
                way.append(random.choice([road for road in "abcde" if road != way[-1]]))
            cut = cut_rings(tuple(way))
            self.assertEqual(cut, cut_by_hand(way))
            self.assertEqual([cut[0], cut[-1], len(set(cut))], [way[0], way[-1], len(cut)])


class SimpleWays(TestCase):
    def test_some(self):
        shape = Shape("abcd", [("a", "b"), ("b", "a"), ("b", "c"), ("a", "c"), ("c", "b"), ("c", "d")])
        self.assertEqual(list(simple_ways(shape, "a", "a")), [("a",)])
        self.assertEqual(list(simple_ways(shape, "d", "a")), [])
        self.assertEqual(list(simple_ways(shape, "a", "b")), [("a", "b"), ("a", "c", "b")])
        self.assertEqual(list(simple_ways(shape=shape, source="a", target="d")), [("a", "b", "c", "d"), ("a", "c", "d")])

    def test_is_a_generator(self):
        told = simple_ways(Shape("ab", [("a", "b")]), "a", "b")
        self.assertEqual([next(told), next(told, None)], [("a", "b"), None])
        self.assertIs(iter(told), told)

    def test_many(self):
        random = Random(9)
        for _ in range(40):
            shape = some_shape(random)
            for source in shape.roads():
                for target in shape.roads():
                    wanted = all_simple_ways(shape.roads(), shape.turns(), source, target)
                    self.assertEqual(list(simple_ways(shape, source, target)), wanted)
                    self.assertTrue(all(shape.is_way(way) for way in wanted))

    def test_roads_that_lead_nowhere(self):
        names = list("cdefghijklmnopqr")
        turns = [(u, v) for u in names for v in names if u != v] + [("a", "b")] + [("a", name) for name in names]
        self.assertEqual(list(simple_ways(Shape(["a", "b", *names], turns), "a", "b")), [("a", "b")])

    def test_a_long_row_with_dead_ends(self):
        names = ["x" + one + two for one in "abcdefghij" for two in "abcdefghij"]
        turns = list(zip(names, names[1:])) + [(name, "dead") for name in names[:-1]]
        self.assertEqual(list(simple_ways(Shape(names + ["dead"], turns), names[0], names[-1])), [tuple(names)])


if __name__ == "__main__":
    main()

"""Closings ([37]): what cuts a question, the judge of closing papers, and least closings."""

from random import Random
from unittest import TestCase, main

from feeblind.charts import Chart
from feeblind.closings import ClosingPaper, cuts, judge_closing, least_closings
from feeblind.nets import Net, net_of
from feeblind.shapes import Shape
from feeblind.verdicts import ClosingRefused, ClosingTaken
from tests.charting import EXAMPLE, Ways, plain_by_hand, worth_by_hand
from tests.oracles import ODD
from tests.pricing import PRICE, lots_of, price_case, price_closed

NET = net_of(Chart.read(EXAMPLE), PRICE)
BEGINS, ENDS = {"ab": 3, "ac": 1}, ["bd", "cd"]
BEST = ("ac", "cb", "bd")
# Two ways without common roads, and one way that crosses over from the first to the second.
CROSS = Shape(["s", "t", "u", "v", "x"], [("s", "u"), ("t", "v"), ("s", "x"), ("x", "v")])
CROSS_NET = Net(CROSS, PRICE, {}, {turn: 1 for turn in CROSS.turns()})


def judged_by_hand(net, ways, begins, ends, cut, shown):
    """The verdict, in the words of [37]."""
    price = plain_by_hand(net, ways, begins, ends)
    roads = net.shape.roads()
    if len(cut) != len(shown):
        return ClosingRefused("many")
    if price is None:
        return ClosingTaken() if not shown else ClosingRefused("way")
    for way in shown:
        if type(way) is not tuple or not way or not all(type(road) is str and road in roads for road in way):
            return ClosingRefused("way")
        if not all(turn in net.shape.turns() for turn in zip(way, way[1:])):
            return ClosingRefused("way")
        if begins.get(way[0]) is None or way[-1] not in ends or worth_by_hand(net, way, begins[way[0]]) != price:
            return ClosingRefused("way")
    if any(set(one) & set(other) for at, one in enumerate(shown) for other in shown[:at]):
        return ClosingRefused("shared")
    if not all(type(road) is str and road in roads for road in cut) or price_closed(net, ways, begins, ends, cut) == price:
        return ClosingRefused("cut")
    return ClosingTaken()


def judged(cut, ways, begins=BEGINS, ends=ENDS, net=NET):
    """The verdict on a paper for the example."""
    return judge_closing(net, begins, ends, ClosingPaper(cut, ways))


class Papers(TestCase):
    def test_lists(self):
        paper = ClosingPaper(cut=("ab",), ways=(("ab", "bd"),))
        self.assertEqual([paper.cut(), paper.ways()], [["ab"], [("ab", "bd")]])
        self.assertEqual([ClosingPaper([], []).cut(), ClosingPaper([], []).ways()], [[], []])

    def test_what_is_passed_and_told_may_be_changed(self):
        cut, ways = ["ab", ["x"], ({"k": [1]},)], [("ab",), ["bd"], {"k": [2]}]
        paper = ClosingPaper(cut, ways)
        for one in (cut, ways, paper.cut(), paper.ways()):
            one[1].append("y")
            one.pop()
        paper.cut()[2][0]["k"].append(9)
        paper.ways()[2]["k"].append(9)
        self.assertEqual([paper.cut(), paper.ways()], [["ab", ["x"], ({"k": [1]},)], [("ab",), ["bd"], {"k": [2]}]])


class Cutting(TestCase):
    def test_some(self):
        self.assertEqual([cuts(NET, BEGINS, ENDS, roads) for roads in ([], ["ab"], ["ac"], ["cd", "ab"], ["ab", "bd"])], [False, False, True, False, True])
        self.assertIs(cuts(net=NET, begins=BEGINS, ends=ENDS, roads=("cb", "cb")), True)
        for begins, ends in (({}, ENDS), (BEGINS, []), ({"ab": None}, ENDS), ({"bd": 1}, ["ac"])):
            self.assertIs(cuts(NET, begins, ends, ["bd"]), False)
        self.assertIs(cuts(NET, {"ab": 3, "bd": 5}, ["bd"], ["ab"]), False)
        self.assertIs(cuts(NET, {"ab": 3, "bd": 4}, ["bd"], ["bd"]), True)

    def test_many(self):
        random = Random(170)
        for _ in range(60):
            net, ways, begins, ends = price_case(random, 5)
            price = plain_by_hand(net, ways, begins, ends)
            for lot in lots_of(net.shape.roads()):
                wanted = price is not None and price_closed(net, ways, begins, ends, lot) != price
                self.assertIs(cuts(net, begins, ends, list(lot)), wanted)


class Judge(TestCase):
    def test_taken(self):
        for road in BEST:
            self.assertEqual(judged([road], [BEST]), ClosingTaken())
        self.assertEqual(judged([], [], {}), ClosingTaken())
        self.assertEqual(judged([], [], {"bd": 1}, ["ac"]), ClosingTaken())
        self.assertEqual(judge_closing(net=NET, begins=BEGINS, ends=ENDS, paper=ClosingPaper(["cb"], [BEST])), ClosingTaken())
        self.assertEqual(judged(["bd", "cd"], [("cd",), ("bd",)], {"bd": 4, "cd": 4}), ClosingTaken())

    def test_many_comes_first(self):
        for cut, ways in ((["ac"], []), ([], [BEST]), (["ac", "cb"], [BEST]), ([None], ["no", BEST]), (["zz"], [])):
            self.assertEqual(judged(cut, ways), ClosingRefused("many"))
        self.assertEqual(judged(["ac"], [], {}), ClosingRefused("many"))

    def test_ways(self):
        wrong = [("ab", "bd"), ("ac", "cd"), ("ac", "bd"), ("cb", "bd"), ("ac", "cb"), (), ["ac", "cb", "bd"], ("ac", "cb", "bd", "zz"), "ac", ("ac", ["cb"], "bd")]
        for way in wrong + ODD:
            self.assertEqual(judged(["ac"], [way]), ClosingRefused("way"), way)
            self.assertEqual(judged(["ac", "zz"], [BEST, way]), ClosingRefused("way"), way)
        self.assertEqual(judged(["ac"], [BEST], {}), ClosingRefused("way"))
        self.assertEqual(judged(["ac"], [BEST], {"ac": None, "ab": 3}), ClosingRefused("way"))

    def test_ways_with_rings_of_no_price(self):
        shape = Shape("abc", [("a", "b"), ("b", "a"), ("a", "c")])
        net = Net(shape, PRICE, {}, {("a", "b"): 0, ("b", "a"): 0, ("a", "c"): 4})
        self.assertEqual(judged(["a"], [("a", "b", "a", "c")], {"a": 1}, ["c"], net), ClosingTaken())
        net = net.with_arcs({("b", "a"): 1})
        self.assertEqual(judged(["a"], [("a", "b", "a", "c")], {"a": 1}, ["c"], net), ClosingRefused("way"))

    def test_shared(self):
        self.assertEqual(judged(["ac", "bd"], [BEST, BEST]), ClosingRefused("shared"))
        self.assertEqual(judged(["zz", None], [BEST, ("ab", "bd")], {"ac": 1, "ab": 2}), ClosingRefused("shared"))

    def test_cut(self):
        for road in ("ab", "cd", "zz", None, 7, ["ac"], ("ac",), {}, "AC"):
            self.assertEqual(judged([road], [BEST]), ClosingRefused("cut"))
        # Without ways and a cut nothing is cut.
        self.assertEqual(judged([], []), ClosingRefused("cut"))
        self.assertEqual(judged(["bd", "bd"], [("bd",), ("cd",)], {"bd": 4, "cd": 4}), ClosingRefused("cut"))

    def test_many(self):
        random = Random(171)
        seen = []
        for _ in range(400):
            net, ways, begins, ends = price_case(random, 4)
            roads = net.shape.roads()
            paper = least_closings(net, begins, ends)
            cut, shown = paper.cut(), paper.ways()
            kind = random.randint(0, 4)
            if kind == 1:
                cut = random.sample(roads + ["zz"], min(len(roads), len(cut)))
            elif kind == 2:
                cut, shown = cut + cut[:1], shown + shown[:1]
            elif kind == 3:
                known = ways.answering({road: 0 for road in roads}, roads)
                cut, shown = cut + roads[:1], shown + [random.choice(known)]
            elif kind == 4:
                cut, shown = cut[:-1], shown[:-1]
            verdict = judge_closing(net, begins, ends, ClosingPaper(cut, shown))
            self.assertEqual(verdict, judged_by_hand(net, ways, begins, ends, cut, shown))
            seen.append("taken" if verdict.taken else verdict.what)
        self.assertTrue(all(seen.count(word) > 10 for word in ("taken", "way", "shared", "cut")), seen)


class Least(TestCase):
    def test_example(self):
        paper = least_closings(net=NET, begins=BEGINS, ends=ENDS)
        self.assertEqual([paper.ways(), len(paper.cut())], [[BEST], 1])
        for begins, ends in (({}, ENDS), (BEGINS, []), ({"bd": 1}, ["ac"])):
            paper = least_closings(NET, begins, ends)
            self.assertEqual([paper.cut(), paper.ways()], [[], []])

    def test_ways_that_are_turned_about(self):
        # Whichever way is found first, both are best ways: s, x, v and t, v; s, u.
        net = CROSS_NET.with_arcs({("s", "x"): 0, ("x", "v"): 1})
        for begins in ({"s": 0, "t": 0}, {"t": 0, "s": 0}):
            paper = least_closings(net, begins, ["u", "v"])
            self.assertEqual([len(paper.cut()), paper.ways()], [2, [("s", "u"), ("t", "v")]])

    def test_a_begin_that_is_an_end(self):
        paper = least_closings(NET, {"bd": 4, "cd": 4, "ac": 2}, ENDS)
        self.assertEqual([paper.cut(), paper.ways()], [["bd", "cd"], [("bd",), ("cd",)]])

    def test_rings_of_no_price(self):
        shape = Shape("abcd", [("a", "b"), ("b", "c"), ("c", "b"), ("b", "d"), ("c", "a"), ("a", "c"), ("c", "d")])
        net = Net(shape, PRICE, {}, {turn: 0 for turn in shape.turns()})
        self.assertEqual(len(least_closings(net, {"a": 0}, ["d"]).cut()), 1)
        self.assertEqual(len(least_closings(net, {"a": 0, "b": 0}, ["d", "c"]).cut()), 2)

    def even_case(self, random):
        """A net of layers in which each way from the first one to the last one costs the same, but for a few turns."""
        layers = [[row + "abc"[at] for at in range(random.randint(1, 3))] for row in "xyz"[:random.randint(2, 3)]]
        turns = [(u, v) for upper, lower in zip(layers, layers[1:]) for u in upper for v in lower if random.random() < 0.6]
        net = Net(Shape([road for row in layers for road in row], turns), PRICE, {}, {turn: random.choice([1, 1, 1, 1, 2]) for turn in turns})
        return net, Ways(net.shape), {road: random.choice([0, 0, 0, 1]) for road in layers[0]}, layers[-1]

    def test_many(self):
        random = Random(172)
        sizes = []
        for at in range(400):
            net, ways, begins, ends = price_case(random) if at < 200 else self.even_case(random)
            price = plain_by_hand(net, ways, begins, ends)
            paper = least_closings(net, begins, ends)
            cut, shown = paper.cut(), paper.ways()
            self.assertEqual(judge_closing(net, begins, ends, paper), ClosingTaken())
            self.assertEqual(judged_by_hand(net, ways, begins, ends, cut, shown), ClosingTaken())
            self.assertEqual(cut, sorted(set(cut)))
            self.assertIs(price is None, not cut)
            fewer = [lot for lot in lots_of(net.shape.roads()) if len(lot) < len(cut)]
            self.assertFalse([lot for lot in fewer if price_closed(net, ways, begins, ends, lot) != price])
            sizes.append(len(cut))
            again = least_closings(net, begins, ends)
            self.assertEqual([again.cut(), again.ways()], [cut, shown])
        self.assertTrue(all(sizes.count(many) > 5 for many in range(4)), sizes)

    def test_a_larger_net(self):
        # So many ways side by side, each of three roads, and a crossing between neighbours.
        many = 20
        names = [[row + "abcdefghijklmnopqrst"[at] for at in range(many)] for row in "xyz"]
        turns = [(one, other) for upper, lower in zip(names, names[1:]) for one, other in zip(upper, lower)]
        turns += [(one, other) for upper, lower in zip(names, names[1:]) for one, other in zip(upper, lower[1:])]
        shape = Shape([road for row in names for road in row], turns)
        net = Net(shape, PRICE, {}, {turn: 2 for turn in turns})
        begins, ends = {road: 3 for road in names[0]}, names[2]
        paper = least_closings(net, begins, ends)
        self.assertEqual([len(paper.cut()), len(paper.ways())], [many, many])
        self.assertTrue(judge_closing(net, begins, ends, paper).taken)


if __name__ == "__main__":
    main()

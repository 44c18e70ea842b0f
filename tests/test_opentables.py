"""The table for all fees and closings: readings ([38]), points and parting ([39]), breaking lots and limits ([40])."""

from itertools import combinations
from random import Random
from unittest import TestCase, main

from feeblind.charts import Chart
from feeblind.errors import BadFee, UnknownName, UnknownRow
from feeblind.measures import Price
from feeblind.nets import Net, begins_at, ends_at, net_of
from feeblind.opentables import OpenTable, open_table
from feeblind.roads import Road
from feeblind.rows import Open
from feeblind.shapes import Shape
from tests.charting import EXAMPLE, Ways, plain_by_hand, some_charts, turns_by_hand
from tests.oracles import ODD, thinned_open
from tests.samples import open_values
from tests.pricing import lots_of

OPEN = Open("cost")
CHART = Chart.read(EXAMPLE)
NET = net_of(CHART, OPEN)
BEGINS, ENDS = begins_at(CHART, NET, "a"), ends_at(CHART, "d")
VALUE = ((2, ("a", "b")), (3, ("a",)), (3, ("c",)), (7, ()))
TABLE = OpenTable(["d", "a", "c", "b"], VALUE)


def read_by_hand(rows, fees, shut):
    """The reading, in the words of [38]."""
    prices = [price + sum(fees.get(name, 0) for name in lot) for price, lot in rows if not set(lot) & set(shut)]
    return min(prices, default=None)


def some_table(random, twice):
    """A table of up to four doubts; names may come twice in a lot if twice is True."""
    doubts = random.sample("abcde", random.randint(0, 4))
    rows = []
    for _ in range(random.randint(0, 6) if doubts else random.randint(0, 1)):
        many = random.randint(0, 3)
        lot = random.choices(doubts, k=many) if twice and doubts else random.sample(doubts, min(many, len(doubts)))
        rows.append((random.choice([0, 1, 2, 2, 3, 5]), tuple(lot)))
    return OpenTable(doubts, thinned_open(rows))


def some_fees(random, doubts):
    """Fees for some of the doubts."""
    return {name: random.choice([0, 1, 1, 2, 4, 1000]) for name in doubts if random.random() < 0.5}


class Plain(TestCase):
    def test_lists(self):
        self.assertEqual([TABLE.doubts(), TABLE.rows(), list(TABLE), len(TABLE), bool(TABLE), repr(TABLE)], [list("abcd"), list(VALUE), list(VALUE), 4, True, "OpenTable(4 rows)"])
        empty = OpenTable(doubts=[], value=None)
        self.assertEqual([empty.doubts(), empty.rows(), list(empty), len(empty), bool(empty), repr(empty)], [[], [], [], 0, True, "OpenTable(0 rows)"])
        self.assertEqual(OpenTable(("a", "a"), ((1, ("a",)),)).doubts(), ["a"])

    def test_equality(self):
        self.assertEqual(TABLE, OpenTable(list("abcdd"), VALUE))
        for other in (OpenTable(list("abc"), VALUE), OpenTable(list("abcd"), VALUE[:3]), OpenTable(list("abcd"), None), VALUE, None):
            self.assertNotEqual(TABLE, other)
        self.assertEqual(OpenTable([], None), OpenTable((), None))

    def test_what_is_passed_and_told_may_be_changed(self):
        doubts, fees, shut = ["b", "a"], {"a": 4}, ["b"]
        table = OpenTable(doubts, ((2, ("a",)), (9, ())))
        doubts.append("z")
        self.assertEqual([table.reading(fees=fees, shut=shut), table.limit("a", fees=fees, shut=shut), table.breaking(fees=fees)], [6, 7, [("a",)]])
        self.assertEqual([fees, shut], [{"a": 4}, ["b"]])
        for told in (table.doubts(), table.rows(), list(table), table.point((9, ())), table.useless(), table.breaking()):
            told.append("z")
        table.part(OpenTable([], None)).append("z")
        self.assertEqual(table, OpenTable(["a", "b"], ((2, ("a",)), (9, ()))))
        self.assertEqual([table.point((9, ())), table.useless(), table.part(OpenTable([], None))], [["a", "b"], ["b"], ["a", "b"]])


class Reading(TestCase):
    def test_some(self):
        self.assertEqual(TABLE.reading(), 2)
        self.assertEqual(TABLE.reading(fees=None, shut=[]), 2)
        self.assertEqual([TABLE.reading(fees={"a": 1}), TABLE.reading(fees={"a": 1, "c": 9}), TABLE.reading(fees={"a": 10 ** 10, "c": 10 ** 12})], [3, 3, 7])
        self.assertEqual([TABLE.reading(shut=["b"]), TABLE.reading(shut=("a",)), TABLE.reading(shut=["c", "a", "a"])], [3, 3, 7])
        self.assertEqual([TABLE.reading(fees={"d": 5}, shut=["d"]), TABLE.reading(fees={}, shut=())], [2, 2])
        self.assertIsNone(OpenTable(["a"], None).reading(fees={"a": 1}))
        self.assertIsNone(OpenTable(["a"], ((1, ("a",)),)).reading(shut=["a"]))

    def test_a_name_twice_in_a_lot(self):
        table = OpenTable(["a"], ((1, ("a", "a")), (4, ("a",)), (9, ())))
        self.assertEqual([table.reading(fees={"a": fee}) for fee in range(7)], [1, 3, 5, 7, 8, 9, 9])

    def test_errors(self):
        wrong = [value for value in ODD if value != "a"]
        for value in wrong:
            for call in (lambda: TABLE.reading(shut=["a", value, "zz"]), lambda: TABLE.limit("a", shut=[value])):
                with self.assertRaises(UnknownName) as caught:
                    call()
                self.assertIs(caught.exception.name, value)
        for fees in ({"zz": 1, "a": 2}, {"a": None, "zz": None}, {"zzz": -1, "zz": 0}):
            for call in (lambda: TABLE.reading(fees=fees, shut=[5]), lambda: TABLE.breaking(fees=fees), lambda: TABLE.limit("a", fees=fees, shut=["q"])):
                with self.assertRaises(UnknownName) as caught:
                    call()
                self.assertEqual(caught.exception.name, "zz")
        bad = [value for value in ODD if isinstance(value, bool) or not isinstance(value, int)] + [-1]
        for value in bad:
            for call in (lambda: TABLE.reading(fees={"a": 1, "b": value}, shut=[5]), lambda: TABLE.breaking(fees={"a": value}), lambda: TABLE.limit("a", fees={"a": value}, shut=["q"])):
                with self.assertRaises(BadFee) as caught:
                    call()
                self.assertEqual(caught.exception.what, "fees")

    def test_many(self):
        random = Random(180)
        for _ in range(200):
            table = some_table(random, True)
            doubts = table.doubts()
            for shut in lots_of(doubts):
                fees = some_fees(random, doubts)
                self.assertEqual(table.reading(fees=fees, shut=list(shut) + list(shut[:1])), read_by_hand(table.rows(), fees, shut))


class Questions(TestCase):
    def test_example(self):
        table = open_table(net=NET, begins=BEGINS, ends=ENDS)
        self.assertEqual([table.rows(), table.doubts()], [[(4, ("ac", "cb")), (5, ())], ["ac", "cb"]])
        self.assertEqual(table, OpenTable(["ac", "cb"], ((4, ("ac", "cb")), (5, ()))))

    def test_doubts_of_entries_arcs_and_begins(self):
        net = Net(Shape("ab", [("a", "b")]), OPEN, {"a": ((1, ("x",)),)}, {("a", "b"): ((2, ("y", "y")), (3, ()))})
        table = open_table(net, {"a": ((0, ("z",)), (1, ())), "b": None}, ["b"])
        self.assertEqual([table.doubts(), table.rows()], [list("xyz"), [(2, ("y", "y", "z")), (3, ("y", "y")), (3, ("z",)), (4, ())]])
        self.assertEqual(open_table(net, {"a": None}, ["b"]), OpenTable(["x", "y"], None))
        self.assertEqual(open_table(Net(Shape([], []), OPEN, {}, {}), {}, []), OpenTable([], None))

    def test_readings_of_charts(self):
        random = Random(181)
        for chart in some_charts(182, 12, 7, "abc"):
            net = net_of(chart, OPEN)
            for start, goal in combinations("abc", 2):
                table = open_table(net, begins_at(chart, net, start), ends_at(chart, goal))
                allowed = [road.name for road in chart.roads() if road.doubtful and road.lets("car")]
                self.assertEqual(table.doubts(), allowed)
                for _ in range(4):
                    fees = some_fees(random, allowed)
                    shut = [name for name in allowed if random.random() < 0.3]
                    self.assertEqual(table.reading(fees=fees, shut=shut), self.price_of_chart(chart, fees, shut, start, goal))
                self.assertTrue(all(len(set(lot)) == len(lot) for _, lot in table))

    def price_of_chart(self, chart, fees, shut, start, goal):
        """The price in the chart in which the fees are added and the roads of shut are closed."""
        roads = []
        for road in chart.roads():
            cost = road.price("cost") + fees.get(road.name, 0)
            wheels = [] if road.name in shut else road.wheels()
            roads.append(Road(road.name, road.tail, road.head, prices={"cost": cost}, wheels=wheels))
        turns = turns_by_hand(roads)
        other = Chart(roads, [rule for rule in chart.rules() if (rule.source, rule.target) in turns])
        net = net_of(other, Price("cost"))
        return plain_by_hand(net, Ways(net.shape), begins_at(other, net, start), ends_at(other, goal))


class Points(TestCase):
    def test_some(self):
        self.assertEqual([TABLE.point(row) for row in VALUE], [["c", "d"], ["b", "c", "d"], ["a", "b", "d"], list("abcd")])
        self.assertEqual(TABLE.point(row=(7, ())), list("abcd"))

    def test_unknown_rows(self):
        table = OpenTable(["a", "b"], ((0, ("a", "b")), (1, ())))
        wrong = [(True, ()), (False, ("a", "b")), (0, ("b", "a")), (0, ["a", "b"]), [1, ()], (1,), (1, (), ()), (1, []), (2, ()), (0, ("a",)), ((0, ("a", "b")), (1, ())), (1, None)]
        for row in wrong + ODD:
            with self.assertRaises(UnknownRow) as caught:
                table.point(row)
            self.assertIs(caught.exception.row, row)
        with self.assertRaises(UnknownRow):
            OpenTable([], None).point((0, ()))

    def test_there_the_row_alone_gives_the_least_price(self):
        random = Random(183)
        for _ in range(200):
            table = some_table(random, False)
            for row in table:
                shut = table.point(row)
                self.assertEqual(shut, [name for name in table.doubts() if name not in row[1]])
                usable = [other for other in table if not set(other[1]) & set(shut)]
                self.assertEqual([other for other in usable if other[0] <= row[0]], [row])
                self.assertEqual(table.reading(shut=shut), row[0])

    def test_doubts_that_count(self):
        random = Random(184)
        for _ in range(150):
            table = some_table(random, False)
            useless = table.useless()
            self.assertEqual(useless, [name for name in table.doubts() if all(name not in lot for _, lot in table)])
            for name in table.doubts():
                changed = [row for row in table if table.reading(shut=table.point(row)) != table.reading(fees={name: 7}, shut=table.point(row))]
                self.assertIs(name in useless, not changed)


class Parting(TestCase):
    def look(self, one, other):
        """None for equal rows, otherwise a closing of doubts of both at which they read different prices."""
        told = one.part(other)
        if one.rows() == other.rows():
            self.assertIsNone(told)
            return
        both = sorted(set(one.doubts() + other.doubts()))
        self.assertEqual(told, [name for name in both if name in told])
        readings = [table.reading(shut=[name for name in told if name in table.doubts()]) for table in (one, other)]
        self.assertNotEqual(readings[0], readings[1])

    def test_some(self):
        self.assertIsNone(TABLE.part(TABLE))
        self.assertIsNone(TABLE.part(other=OpenTable(list("abcxyz"), VALUE)))
        self.assertIsNone(OpenTable(["a"], None).part(OpenTable([], None)))
        self.look(TABLE, OpenTable(list("abcd"), None))
        self.look(OpenTable([], None), OpenTable([], ((0, ()),)))
        self.look(OpenTable(["x"], ((1, ("x",)),)), OpenTable(["y"], ((1, ("y",)),)))
        self.look(OpenTable(["x"], ((1, ("x",)), (2, ()))), OpenTable(["x", "y"], ((1, ("x",)), (2, ("y",)))))

    def test_many(self):
        random = Random(185)
        parted = 0
        for _ in range(500):
            one = some_table(random, False)
            rows = [row for row in one if random.random() < 0.8]
            near = OpenTable(random.sample("abcde", 5), thinned_open(rows + random.sample(one.rows(), min(1, len(one)))))
            for other in (near, some_table(random, False)):
                self.look(one, other)
                self.look(other, one)
                parted += one.part(other) is not None
        self.assertTrue(300 < parted < 990)

    def test_tables_that_read_the_same_have_equal_rows(self):
        random = Random(186)
        for _ in range(300):
            one, other = some_table(random, False), some_table(random, False)
            both = sorted(set(one.doubts() + other.doubts()))
            same = all(
                one.reading(shut=[name for name in shut if name in one.doubts()]) == other.reading(shut=[name for name in shut if name in other.doubts()])
                for shut in lots_of(both)
            )
            self.assertIs(same, one.part(other) is None)


class Breaking(TestCase):
    def by_hand(self, table, fees):
        """The least lots of doubts whose closing changes the reading."""
        doubts, price = table.doubts(), table.reading(fees=fees)
        lots = [lot for lot in lots_of(doubts) if table.reading(fees=fees, shut=list(lot)) != price]
        return sorted(lot for lot in lots if not any(set(other) < set(lot) for other in lots))

    def test_some(self):
        self.assertEqual(TABLE.breaking(), [("a",), ("b",)])
        self.assertEqual(TABLE.breaking(fees={"b": 1}), [("a", "c")])
        self.assertEqual(TABLE.breaking(fees={"b": 1, "c": 1}), [("a",)])
        self.assertEqual(TABLE.breaking(fees={"a": 9, "c": 9}), [])
        self.assertEqual([OpenTable(["a"], None).breaking(), OpenTable(["a"], ((1, ()),)).breaking()], [[], []])
        # A best row with the empty lot beside another best row: nothing breaks the table.
        self.assertEqual(OpenTable(["a"], ((1, ("a",)), (2, ()))).breaking(fees={"a": 1}), [])
        self.assertEqual(OpenTable(["a", "b"], ((1, ("a", "a")), (1, ("b",)))).breaking(), [("a", "b")])

    def test_many(self):
        random = Random(187)
        seen = []
        for _ in range(400):
            table = some_table(random, random.random() < 0.3)
            fees = random.choice([{}, some_fees(random, table.doubts())])
            told = table.breaking(fees=fees)
            self.assertEqual(told, self.by_hand(table, fees))
            self.assertEqual(table.breaking(fees=fees), told)
            seen.append(len(told))
        self.assertTrue(all(seen.count(many) > 5 for many in range(4)), seen)


class Limits(TestCase):
    def by_hand(self, table, road, fees, shut):
        """The limit, by trying fees one by one."""
        others = {name: fees[name] for name in fees if name != road}
        closed = [name for name in shut if name != road]
        readings = [read_by_hand(table.rows(), {**others, road: fee}, closed) for fee in range(1100)]
        if readings[-1] != readings[-2]:
            return None
        return max([at + 1 for at, reading in enumerate(readings) if reading != readings[-1]], default=0)

    def test_some(self):
        self.assertEqual([TABLE.limit(name) for name in "abcd"], [1, 1, 0, 0])
        self.assertEqual(TABLE.limit(road="c", fees={"a": 9}, shut=[]), 4)
        self.assertEqual(TABLE.limit("a", fees={"a": 90}, shut=["a", "b", "c"]), 4)
        self.assertEqual(TABLE.limit("d", shut=["a", "b", "c", "d"]), 0)
        table = OpenTable(["a", "b"], ((1, ("a", "a")), (4, ("a",)), (9, ("b",))))
        self.assertEqual([table.limit("a"), table.limit("b"), table.limit("a", shut=["b"]), table.limit("b", shut=["a"])], [5, 0, None, None])
        self.assertEqual([OpenTable(["a"], None).limit("a"), OpenTable(["a"], ((0, ()),)).limit("a"), OpenTable(["a"], ((0, ("a",)),)).limit("a")], [0, 0, None])

    def test_unknown_names(self):
        for value in [value for value in ODD if value != "a"] + ["z"]:
            with self.assertRaises(UnknownName) as caught:
                TABLE.limit(value, fees={"zz": 1}, shut=["q"])
            self.assertIs(caught.exception.name, value)

    def test_many(self):
        random = Random(188)
        seen = []
        for _ in range(120):
            table = some_table(random, True)
            for road in table.doubts():
                fees = {name: random.choice([0, 1, 2, 4]) for name in table.doubts() if random.random() < 0.5}
                shut = [name for name in table.doubts() if random.random() < 0.3]
                told = table.limit(road, fees=fees, shut=shut)
                self.assertEqual(told, self.by_hand(table, road, fees, shut))
                seen.append(told)
        self.assertTrue(all(seen.count(value) > 10 for value in (None, 0, 1)), seen)

    def test_values_of_the_samples(self):
        for value in open_values():
            table = OpenTable(list("abc"), value)
            self.assertEqual([table.limit(name) for name in "abc"], [self.by_hand(table, name, {}, []) for name in "abc"])


if __name__ == "__main__":
    main()

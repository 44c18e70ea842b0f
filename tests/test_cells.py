"""Cells and their tables ([30]), and what cells tell ([31])."""

from random import Random
from unittest import TestCase, main

from feeblind.cells import (
    Cells, cell_table, cell_tables, cells_answer, cells_between, check_cells, entry_roads, exit_roads,
)
from feeblind.charts import Chart
from feeblind.errors import BadCells, UnknownCell
from feeblind.measures import Price
from feeblind.nets import Net, begins_at, ends_at, net_of
from feeblind.plain import plain_answer
from feeblind.shapes import Shape, shape_of
from tests.celling import (
    apart_by_hand, close_net, hand_tables, parted, sides_by_hand, some_cells, some_levels, table_by_hand, told_by_hand,
)
from tests.charting import EXAMPLE, Ways, folded, joined, plain_between_by_hand, plain_by_hand, small_samples, some_charts, some_names, some_question, some_shape
from tests.oracles import ODD

PRICE = Price("cost")
NET = net_of(Chart.read(EXAMPLE), PRICE)
# A row of roads from a to f, and back.
ROW = Shape("abcdef", [*zip("abcde", "bcdef"), *zip("bcdef", "abcde")])
ROW_NET = Net(ROW, PRICE, {}, {turn: 1 for turn in ROW.turns()})
LEVELS = [[["a"], ["c", "b"], ["d"], ["f", "e"]], [["c", "a", "b"], ["d"], ["e", "f"]], [["a", "b", "c"], ["f", "d", "e"]]]
NO_CELLS = [
    (1, 4), (0, 0), (4, 0), (1, -1), (True, 0), (1, True), (1, False), (1,), (1, 0, 0), [1, 0], "1", ("1", 0), (None, 0), ((1, 0),), (1, [0]),
    (10 ** 10, 0), (1, {}), (3, 2), *[value for value in ODD if value != (1, 2)],
]


class Plain(TestCase):
    def setUp(self):
        self.cells = Cells(LEVELS)

    def test_lists(self):
        self.assertEqual(self.cells.roads(), list("abcdef"))
        wanted = [(1, 0), (1, 1), (1, 2), (1, 3), (2, 0), (2, 1), (2, 2), (3, 0), (3, 1)]
        self.assertEqual(self.cells.cells(), wanted)
        self.assertEqual([self.cells.lot(cell) for cell in wanted], [sorted(lot) for level in LEVELS for lot in level])
        self.assertEqual(self.cells.lot(cell=(1, 1)), ["b", "c"])
        self.assertEqual([self.cells.cell_of("c", 1), self.cells.cell_of("c", 2), self.cells.cell_of(road="e", level=3)], [(1, 1), (2, 0), (3, 1)])

    def test_shown_and_counted(self):
        self.assertEqual([len(self.cells), repr(self.cells), bool(self.cells)], [9, "Cells(9 cells)", True])
        empty = Cells([[]])
        self.assertEqual([len(empty), repr(empty), bool(empty), empty.roads(), empty.cells()], [0, "Cells(0 cells)", True, [], []])
        self.assertEqual([Cells(levels=[[], [], []]).cells(), repr(Cells([[["a"]]]))], [[], "Cells(1 cells)"])

    def test_unknown_cells(self):
        for cell in NO_CELLS:
            with self.assertRaises(UnknownCell) as caught:
                self.cells.lot(cell)
            self.assertIs(caught.exception.cell, cell)

    def test_equality(self):
        self.assertEqual(self.cells, Cells(tuple(tuple(tuple(lot[::-1]) for lot in level) for level in LEVELS)))
        self.assertEqual(Cells([[]]), Cells([[], []]))
        others = [
            Cells(LEVELS[:2]), Cells(LEVELS[1:]), Cells([LEVELS[0][::-1], *LEVELS[1:]]), Cells([LEVELS[1], LEVELS[1], LEVELS[2]]), LEVELS, None,
            Cells([[["a"]]]), Cells([[]]),
        ]
        for other in others:
            self.assertNotEqual(self.cells, other)

    def test_what_is_passed_and_told_may_be_changed(self):
        levels = [[["a", "b"], ["c"]], [["a", "b", "c"]]]
        cells = Cells(levels)
        levels[0][0].append("c")
        levels[0].pop()
        levels.pop()
        for told in (cells.roads(), cells.cells(), cells.lot((1, 0)), cells.apart("a", "b")):
            told.append("z")
        self.assertEqual(cells, Cells([[["a", "b"], ["c"]], [["a", "b", "c"]]]))
        self.assertEqual([cells.roads(), cells.cells(), cells.lot((1, 0))], [list("abc"), [(1, 0), (1, 1), (2, 0)], ["a", "b"]])
        self.assertEqual(cells.apart("a", "b"), [(1, 1)])

    def test_tuples_do_the_same_as_lists(self):
        self.assertEqual(Cells(((("a", "b"), ("c",)),)), Cells([[["a", "b"], ["c"]]]))


class Wrong(TestCase):
    def look(self, levels, road):
        with self.assertRaises(BadCells) as caught:
            Cells(levels)
        self.assertEqual(caught.exception.road, road)

    def test_roads_that_do_not_stand_exactly_once(self):
        self.look([[["a", "b"], ["b", "c"]]], "b")
        self.look([[["a", "b", "b"]]], "b")
        self.look([[["c", "c"], ["b"], ["b"]]], "b")
        self.look([[["a"], ["b"]], [["b"]]], "a")
        self.look([[["b"]], [["b"], ["a"]]], "a")
        self.look([[["a"], ["b"]], [["a", "b"]], [["a"]]], "b")
        self.look([[["a"]], [["a", "a"]]], "a")
        self.look([[], [["x"]]], "x")
        self.look([[["x"]], []], "x")

    def test_lots_that_do_not_lie_within_one_another(self):
        self.look([[["a", "b"], ["c"]], [["a"], ["b", "c"]]], "a")
        self.look([[["a"], ["c", "d"]], [["a", "d"], ["c"]]], "c")
        self.look([[["a"], ["b"], ["c"], ["d"]], [["a"], ["c", "b"], ["d"]], [["a", "c"], ["d", "b"]]], "b")
        self.look([[["a", "b"]], [["b"], ["a"]]], "a")
        self.look([[["b", "c"], ["a"]], [["a", "b", "c"]], [["a", "b"], ["c"]]], "a")

    def test_once_counts_first(self):
        self.look([[["a", "b"], ["z"]], [["a"], ["b"]]], "z")
        self.look([[["b", "a"], ["c"]], [["a"], ["b"], ["c"], ["c"]]], "c")

    def test_many(self):
        random = Random(130)
        for _ in range(300):
            roads = some_names(random, 5)
            levels = some_levels(random, roads, random.randint(1, 3))
            for _ in range(random.randint(1, 2)):
                lots = [lot for level in levels for lot in level]
                lot = random.choice(lots)
                random.choice([lambda: lot.append(random.choice(roads)), lambda: lot.pop() if len(lot) > 1 else None])()
            self.by_hand(levels)
            if len(levels) > 1:
                self.by_hand([levels[0], parted(random, roads), *levels[2:]])

    def by_hand(self, levels):
        """The error of some levels, in the words of the interface."""
        known = sorted({road for level in levels for lot in level for road in lot})
        wrong = [road for road in known if any(sum(lot.count(road) for lot in level) != 1 for level in levels)]
        if not wrong:
            for road in known:
                lots = [set(lot) for level in levels for lot in level if road in lot]
                if not all(one <= other for one, other in zip(lots, lots[1:])):
                    wrong.append(road)
        if wrong:
            self.look(levels, wrong[0])
        else:
            self.assertEqual(Cells(levels).roads(), known)


class Apart(TestCase):
    def test_some(self):
        cells = Cells(LEVELS)
        self.assertEqual(cells.apart("a", "a"), [(1, 1), (3, 1)])
        self.assertEqual(cells.apart("b", "c"), [(1, 0), (3, 1)])
        self.assertEqual(cells.apart(source="a", target="d"), [(1, 1), (2, 2)])
        self.assertEqual(cells.apart("d", "a"), [(1, 1), (2, 2)])
        self.assertEqual(cells.apart("e", "e"), [(2, 1), (3, 0)])
        self.assertEqual(Cells([[["a", "b"]]]).apart("a", "b"), [])

    def test_equal_lots_on_several_levels(self):
        cells = Cells([[["a"], ["b"]]] * 3)
        self.assertEqual([cells.apart("a", "a"), cells.apart("b", "b"), cells.apart("a", "b")], [[(3, 1)], [(3, 0)], []])
        cells = Cells([[["a"], ["b"], ["c"]], [["a"], ["b"], ["c"]], [["a", "b"], ["c"]]])
        self.assertEqual([cells.apart("a", "a"), cells.apart("a", "c"), cells.apart("c", "c")], [[(2, 1), (3, 1)], [(2, 1)], [(3, 0)]])

    def test_many(self):
        random = Random(131)
        for _ in range(60):
            shape = some_shape(random, 7, 1)
            cells = some_cells(random, shape)
            for u in shape.roads():
                for v in shape.roads():
                    self.assertEqual(cells.apart(u, v), apart_by_hand(cells, u, v))


class Tables(TestCase):
    def test_entries_and_exits(self):
        cells = Cells([[["a", "b"], ["c", "d"], ["e", "f"]]])
        self.assertEqual([entry_roads(ROW, cells, cell) for cell in cells.cells()], [["b"], ["c", "d"], ["e"]])
        self.assertEqual([exit_roads(shape=ROW, cells=cells, cell=cell) for cell in cells.cells()], [["b"], ["c", "d"], ["e"]])
        whole = Cells([[list("abcdef")]])
        self.assertEqual([entry_roads(ROW, whole, (1, 0)), exit_roads(ROW, whole, (1, 0)), cell_table(ROW_NET, whole, (1, 0))], [[], [], {}])
        one_way = Shape("abc", [("a", "b"), ("b", "c")])
        cells = Cells([[["a"], ["b"], ["c"]]])
        self.assertEqual([entry_roads(shape=one_way, cells=cells, cell=(1, at)) for at in range(3)], [[], ["b"], ["c"]])
        self.assertEqual([exit_roads(one_way, cells, (1, at)) for at in range(3)], [["a"], ["b"], []])

    def test_some_tables(self):
        cells = Cells([[["a", "b"], ["d", "c"], ["e", "f"]], [["a", "b"], ["c", "d", "e", "f"]]])
        self.assertEqual(cell_table(ROW_NET, cells, (1, 1)), {("c", "d"): 1, ("d", "c"): 1})
        self.assertEqual(cell_table(net=ROW_NET, cells=cells, cell=(2, 1)), {})
        self.assertEqual(cell_table(ROW_NET.with_arcs({("c", "d"): None}), cells, (1, 1)), {("d", "c"): 1})
        self.assertEqual(cell_tables(net=ROW_NET, cells=cells), {(1, 0): {}, (1, 1): {("c", "d"): 1, ("d", "c"): 1}, (1, 2): {}, (2, 0): {}, (2, 1): {}})
        self.assertEqual(list(cell_tables(ROW_NET, cells)), cells.cells())
        self.assertEqual(cell_tables(Net(Shape([], []), PRICE, {}, {}), Cells([[], []])), {})

    def test_ways_go_by_the_roads_of_the_cell_alone(self):
        shape = Shape("abcx", [("a", "b"), ("b", "c"), ("a", "x"), ("x", "c"), ("x", "a"), ("c", "x")])
        net = Net(shape, PRICE, {}, {("a", "b"): 5, ("b", "c"): 5, ("a", "x"): 1, ("x", "c"): 1, ("x", "a"): 0})
        cells = Cells([[["a", "b", "c"], ["x"]]])
        self.assertEqual(cell_table(net, cells, (1, 0)), {("a", "c"): 10})

    def test_many(self):
        random = Random(132)
        for measure, values in small_samples():
            for _ in range(4):
                net = close_net(random, measure, values)
                cells = some_cells(random, net.shape)
                tables = {cell: table_by_hand(net, cells.lot(cell)) for cell in cells.cells()}
                told = cell_tables(net, cells)
                self.assertEqual([list(told), told], [cells.cells(), tables])
                for cell in cells.cells():
                    entries, exits = sides_by_hand(net.shape, cells.lot(cell))
                    self.assertEqual([entry_roads(net.shape, cells, cell), exit_roads(net.shape, cells, cell)], [entries, exits])
                    self.assertEqual(list(cell_table(net, cells, cell).items()), list(tables[cell].items()))

    def test_tables_that_are_told_may_be_changed(self):
        cells = Cells([[["a", "b"], ["d", "c"], ["e", "f"]]])
        tables = cell_tables(ROW_NET, cells)
        tables[(1, 1)].clear()
        cell_table(ROW_NET, cells, (1, 1)).clear()
        entry_roads(ROW, cells, (1, 1)).clear()
        self.assertEqual(cell_tables(ROW_NET, cells)[(1, 1)], {("c", "d"): 1, ("d", "c"): 1})
        self.assertEqual(entry_roads(ROW, cells, (1, 1)), ["c", "d"])


class Checks(TestCase):
    def test_roads_that_only_one_has(self):
        cells = Cells([[["a", "b"], ["y"]]])
        calls = [
            lambda shape: check_cells(shape, cells), lambda shape: entry_roads(shape, cells, "no"), lambda shape: exit_roads(shape, cells, None),
            lambda shape: cell_table(Net(shape, PRICE, {}, {}), cells, (7, 7)), lambda shape: cell_tables(Net(shape, PRICE, {}, {}), cells),
        ]
        for roads, road in ((["a", "b"], "y"), (["b", "y"], "a"), (["a", "b", "x", "y"], "x"), (["a", "b", "z"], "y"), ([], "a"), (["y", "z", "b"], "a")):
            for call in calls:
                with self.assertRaises(BadCells) as caught:
                    call(Shape(roads, []))
                self.assertEqual(caught.exception.road, road)
        with self.assertRaises(BadCells):
            cell_tables(Net(Shape(["a"], []), PRICE, {}, {}), Cells([[]]))
        self.assertIsNone(check_cells(shape=Shape(["a", "b", "y"], []), cells=cells))
        self.assertIsNone(check_cells(Shape([], []), Cells([[]])))

    def test_unknown_cells(self):
        cells = Cells(LEVELS)
        for cell in NO_CELLS:
            for call in (lambda: entry_roads(ROW, cells, cell), lambda: exit_roads(ROW, cells, cell), lambda: cell_table(ROW_NET, cells, cell)):
                with self.assertRaises(UnknownCell) as caught:
                    call()
                self.assertIs(caught.exception.cell, cell)


class Telling(TestCase):
    def test_example(self):
        chart = Chart.read(EXAMPLE)
        cells = Cells([[["ab", "ac"], ["bd", "cb", "cd"]], [["ab", "ac", "bd", "cb", "cd"]]])
        tables = cell_tables(NET, cells)
        begins, ends = begins_at(chart, NET, "a"), ends_at(chart, "d")
        self.assertEqual(cells_answer(net=NET, cells=cells, tables=tables, begins=begins, ends=ends), 4)
        self.assertEqual(cells_between(net=NET, cells=cells, tables=tables, source="ac", target="bd"), 3)
        self.assertEqual([cells_between(NET, cells, tables, "ac", "ac"), cells_between(NET, cells, tables, "bd", "ac")], [0, None])

    def test_nothing_asked(self):
        cells = Cells([[[road] for road in NET.shape.roads()]])
        tables = cell_tables(NET, cells)
        for begins, ends in (({}, ["bd"]), ({"ac": 1}, []), ({"ac": None}, ["bd"]), ({}, [])):
            self.assertIsNone(cells_answer(NET, cells, tables, begins, ends))
        self.assertEqual(cells_answer(NET, cells, tables, {"ac": None, "bd": 3, "cd": 9}, ["cd", "bd", "bd"]), 3)
        self.assertIsNone(cells_answer(Net(Shape([], []), PRICE, {}, {}), Cells([[]]), {}, {}, []))

    def test_tables_tell_instead_of_the_arcs_within(self):
        cells = Cells([[["a", "b"], ["c", "d"], ["e", "f"]]])
        self.assertEqual(cells_between(ROW_NET, cells, cell_tables(ROW_NET, cells), "a", "f"), 5)
        self.assertIsNone(cells_between(ROW_NET, cells, {}, "a", "f"))
        self.assertEqual(cells_between(ROW_NET, cells, {(1, 1): {("c", "d"): 7}}, "b", "e"), 9)
        # The table of a cell that holds one of both means nothing.
        self.assertEqual(cells_between(ROW_NET, cells, {(1, 1): {("c", "d"): 7}, (1, 0): {("a", "b"): 0}}, "a", "e"), 10)
        self.assertEqual(cells_between(ROW_NET, cells, {(1, 1): {("c", "d"): 7}}, "a", "d"), 3)
        self.assertIsNone(cells_between(ROW_NET, cells, {(1, 1): {("c", "d"): None}}, "a", "e"))

    def test_cells_of_higher_levels_tell(self):
        cells = Cells([[["a"], ["b", "c"], ["d"], ["e"], ["f"]], [["a"], ["b", "c", "d"], ["e", "f"]]])
        self.assertEqual(cells_between(ROW_NET, cells, {(2, 1): {("b", "d"): 40}, (1, 1): {("b", "c"): 0}}, "a", "f"), 43)
        self.assertEqual(cells_between(ROW_NET, cells, {(2, 1): {("b", "d"): 40}, (1, 1): {("b", "c"): 9}}, "a", "d"), 11)

    def test_a_pair_in_one_lot(self):
        cells = Cells([[["a", "b", "c"], ["d", "e", "f"]]])
        net = ROW_NET.with_arcs({("b", "c"): 90})
        self.assertEqual(cells_between(net, cells, cell_tables(net, cells), "a", "c"), 91)

    def look(self, random, net, cells, tables, values):
        """What tables tell against the words of [31], from road to road and for some questions."""
        roads, measure = net.shape.roads(), net.measure
        told = {(u, v): told_by_hand(net, cells, tables, u, v) for u in roads for v in roads}
        for u, v in told:
            self.assertEqual(cells_between(net, cells, tables, u, v), told[(u, v)])
        for _ in range(3):
            begins, ends = some_question(random, net, values)
            wanted = folded(measure, [joined(measure, [begins[b], told[(b, e)]]) for b in begins for e in ends])
            self.assertEqual(cells_answer(net, cells, tables, begins, ends), wanted)
        return told

    def test_tables_of_the_net_and_tables_made_by_hand(self):
        random = Random(133)
        for measure, values in small_samples():
            net = close_net(random, measure, values, 5)
            cells, ways = some_cells(random, net.shape), Ways(net.shape)
            told = self.look(random, net, cells, cell_tables(net, cells), values)
            for u, v in told:
                self.assertEqual(told[(u, v)], plain_between_by_hand(net, ways, u, v))
            self.look(random, net, cells, hand_tables(random, cells, values), values)

    def test_prices(self):
        random = Random(134)
        for _ in range(40):
            net = close_net(random, PRICE, range(5), 6)
            cells, ways = some_cells(random, net.shape), Ways(net.shape)
            self.look(random, net, cells, hand_tables(random, cells, range(5)), range(5))
            begins, ends = some_question(random, net, range(5))
            self.assertEqual(cells_answer(net, cells, cell_tables(net, cells), begins, ends), plain_by_hand(net, ways, begins, ends))

    def test_charts(self):
        random = Random(135)
        for chart in some_charts(136, 8, 30, "abcdefghij"):
            cells = some_cells(random, shape_of(chart))
            for measure in (PRICE, Price("toll")):
                net = net_of(chart, measure)
                tables = cell_tables(net, cells)
                for start, goal in (("a", "b"), ("c", "h"), ("j", "a")):
                    begins, ends = begins_at(chart, net, start), ends_at(chart, goal)
                    self.assertEqual(cells_answer(net, cells, tables, begins, ends), plain_answer(net, begins, ends))


if __name__ == "__main__":
    main()

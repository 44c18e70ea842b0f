"""The yard ([32]): stamps, jobs, fresh tables, and what is told, in many orders of take, finish, fall and change."""

from random import Random
from unittest import TestCase, main

from feeblind.cells import Cells, cell_table
from feeblind.charts import Chart
from feeblind.errors import BadCells, BadValue, Busy, ChartError, Idle, Missing, NoTurn, NotReady, Refused, UnknownCell, UnknownWorker
from feeblind.measures import Price
from feeblind.nets import Net, net_of
from feeblind.shapes import Shape
from feeblind.yards import Yard
from tests.celling import apart_by_hand, close_net, some_cells, table_by_hand
from tests.charting import EXAMPLE, Ways, plain_between_by_hand, small_samples
from tests.oracles import ODD

PRICE = Price("cost")
NET = net_of(Chart.read(EXAMPLE), PRICE)
ROW = Shape("abcdef", [*zip("abcde", "bcdef"), *zip("bcdef", "abcde")])
ROW_NET = Net(ROW, PRICE, {}, {turn: 1 for turn in ROW.turns()})
CELLS = Cells([[["a", "b"], ["c", "d"], ["e", "f"]], [["a", "b"], ["c", "d", "e", "f"]]])
ALL = [(1, 0), (1, 1), (1, 2), (2, 0), (2, 1)]


def fill_up(yard):
    """Lets one worker work until no cell is left."""
    while yard.take(0) is not None:
        yard.finish(0)


class Plain(TestCase):
    def setUp(self):
        self.yard = Yard(ROW_NET, CELLS)

    def test_at_first(self):
        yard = Yard(net=ROW_NET, cells=CELLS, workers=2)
        self.assertEqual([yard.net_now(), yard.waits, len(yard), bool(yard), repr(yard)], [ROW_NET, 5, 5, True, "Yard(5 cells)"])
        self.assertEqual([yard.stamp(cell) for cell in ALL], [0] * 5)
        self.assertEqual([yard.is_fresh(cell=cell) for cell in ALL], [False] * 5)
        self.assertEqual([yard.job(0), yard.job(worker=1)], [None, None])

    def test_without_roads(self):
        yard = Yard(Net(Shape([], []), PRICE, {}, {}), Cells([[]]))
        self.assertEqual([len(yard), bool(yard), repr(yard), yard.waits, yard.take(0), yard.job(0)], [0, True, "Yard(0 cells)", 0, None, None])
        self.assertIsNone(yard.change({}))

    def test_bad_cells(self):
        for roads, road in ((list("abcde"), "f"), (list("abcdefg"), "g"), (list("bcdefz"), "a")):
            with self.assertRaises(BadCells) as caught:
                Yard(ROW_NET, Cells([[roads]]))
            self.assertEqual(caught.exception.road, road)

    def test_workers(self):
        for many in (1, 3, 12):
            yard = Yard(ROW_NET, CELLS, workers=many)
            wrong = [value for value in ODD if isinstance(value, bool) or not isinstance(value, int)] + [many, -1, many + 1, 10 ** 10]
            for worker in wrong:
                for call in (lambda: yard.take(worker, "no"), lambda: yard.finish(worker), lambda: yard.fall(worker), lambda: yard.job(worker)):
                    with self.assertRaises(UnknownWorker) as caught:
                        call()
                    self.assertIs(caught.exception.worker, worker)
            self.assertIsNone(yard.job(many - 1))
        with self.assertRaises(UnknownWorker):
            Yard(ROW_NET, CELLS).job(3)

    def test_unknown_cells(self):
        wrong = [value for value in ODD if value != (1, 2)] + [(1, 3), (3, 0), (True, 0), (1, False), [1, 0], (0, 0), (1, 0, 0)]
        for cell in wrong:
            calls = [lambda: self.yard.stamp(cell), lambda: self.yard.is_fresh(cell), lambda: self.yard.table(cell)]
            for call in calls + ([lambda: self.yard.take(0, cell)] if cell is not None else []):
                with self.assertRaises(UnknownCell) as caught:
                    call()
                self.assertIs(caught.exception.cell, cell)
            self.assertIsNone(self.yard.job(0))

    def test_a_job(self):
        self.assertEqual(self.yard.take(1, (1, 1)), (1, 1))
        self.assertEqual([self.yard.job(1), self.yard.waits, self.yard.is_fresh((1, 1))], [((1, 1), 0), 5, False])
        with self.assertRaises(NotReady) as caught:
            self.yard.table((1, 1))
        self.assertEqual(caught.exception.cell, (1, 1))
        self.assertIs(self.yard.finish(1), True)
        self.assertEqual([self.yard.job(1), self.yard.waits, self.yard.is_fresh((1, 1))], [None, 4, True])
        self.assertEqual(self.yard.table(cell=(1, 1)), {("c", "d"): 1, ("d", "c"): 1})

    def test_busy_and_idle(self):
        self.yard.take(worker=2, cell=(2, 1))
        for cell in (None, (1, 0), "no"):
            with self.assertRaises(Busy) as caught:
                self.yard.take(2, cell)
            self.assertEqual(caught.exception.worker, 2)
        self.assertEqual(self.yard.job(2), ((2, 1), 0))
        with self.assertRaises(Idle) as caught:
            self.yard.finish(worker=0)
        self.assertEqual(caught.exception.worker, 0)

    def test_falls(self):
        self.yard.take(0)
        self.assertIsNone(self.yard.fall(0))
        self.assertIsNone(self.yard.fall(worker=0))
        self.assertEqual([self.yard.job(0), self.yard.waits], [None, 5])
        with self.assertRaises(Idle):
            self.yard.finish(0)
        self.assertEqual(self.yard.take(0), (1, 0))

    def test_the_least_cell_that_no_one_has(self):
        self.assertEqual([self.yard.take(0), self.yard.take(1), self.yard.take(2)], [(1, 0), (1, 1), (1, 2)])
        self.yard.fall(1)
        self.assertEqual(self.yard.take(1), (1, 1))
        self.yard.finish(0)
        self.assertEqual(self.yard.take(0), (2, 0))
        # A job under an older stamp does not count.
        self.yard.change({("c", "d"): 7})
        self.yard.finish(0)
        self.assertEqual([self.yard.take(0), self.yard.job(0), self.yard.job(1)], [(1, 1), ((1, 1), 1), ((1, 1), 0)])

    def test_no_cell_is_left(self):
        fill_up(self.yard)
        self.assertEqual([self.yard.waits, self.yard.take(0), self.yard.job(0)], [0, None, None])
        self.assertEqual(self.yard.take(0, (1, 2)), (1, 2))
        self.assertEqual([self.yard.waits, self.yard.job(0)], [0, ((1, 2), 0)])
        yard = Yard(ROW_NET, Cells([[list("abcdef")]]))
        self.assertEqual([yard.take(1), yard.take(2), yard.job(2), yard.waits], [(1, 0), None, None, 1])

    def test_two_workers_at_one_cell(self):
        self.yard.take(0, (1, 1))
        self.yard.take(1, (1, 1))
        self.yard.change({("d", "c"): 9})
        self.yard.take(2, (1, 1))
        self.assertEqual([self.yard.finish(2), self.yard.finish(0), self.yard.is_fresh((1, 1))], [True, False, True])
        self.assertEqual([self.yard.table((1, 1)), self.yard.finish(1), self.yard.is_fresh((1, 1))], [{("c", "d"): 1, ("d", "c"): 9}, False, True])
        self.assertEqual(self.yard.table((1, 1)), {("c", "d"): 1, ("d", "c"): 9})

    def test_stamps(self):
        fill_up(self.yard)
        self.assertIsNone(self.yard.change(arcs={("d", "e"): 5, ("b", "c"): 5}))
        self.assertEqual([self.yard.stamp(cell) for cell in ALL], [0, 0, 0, 0, 1])
        self.assertEqual([self.yard.is_fresh(cell) for cell in ALL], [True, True, True, True, False])
        self.yard.change({("c", "d"): 5, ("d", "c"): 5, ("a", "b"): None})
        self.assertEqual([self.yard.stamp(cell=cell) for cell in ALL], [1, 1, 0, 1, 2])
        for arcs in ({}, {("c", "d"): 5, ("a", "b"): None}):
            self.yard.change(arcs)
            self.assertEqual([self.yard.stamp(cell) for cell in ALL], [1, 1, 0, 1, 2])
        # Back again is one more change.
        self.yard.change({("c", "d"): 1})
        self.assertEqual([self.yard.stamp((1, 1)), self.yard.net_now().arc("c", "d"), self.yard.waits], [2, 1, 4])

    def test_a_change_there_and_back_makes_a_job_void(self):
        self.yard.take(0, (1, 1))
        self.yard.change({("c", "d"): 5})
        self.yard.change({("c", "d"): 1})
        self.assertEqual([self.yard.finish(0), self.yard.is_fresh((1, 1)), self.yard.stamp((1, 1))], [False, False, 2])

    def test_a_table_of_an_older_stamp_is_not_ready(self):
        fill_up(self.yard)
        self.yard.change({("c", "d"): 5})
        for cell in ((1, 1), (2, 1)):
            with self.assertRaises(NotReady) as caught:
                self.yard.table(cell)
            self.assertEqual(caught.exception.cell, cell)
        self.assertEqual(self.yard.table((1, 2)), {})

    def test_between(self):
        with self.assertRaises(NotReady) as caught:
            self.yard.between("a", "b")
        self.assertEqual(caught.exception.cell, (2, 1))
        with self.assertRaises(NotReady) as caught:
            self.yard.between("c", "d")
        self.assertEqual(caught.exception.cell, (1, 2))
        self.yard.take(0, (1, 2))
        self.yard.finish(0)
        with self.assertRaises(NotReady) as caught:
            self.yard.between("c", "d")
        self.assertEqual(caught.exception.cell, (2, 0))
        fill_up(self.yard)
        self.assertEqual([self.yard.between("a", "f"), self.yard.between(source="f", target="c"), self.yard.between("b", "b")], [5, 3, 0])
        self.yard.change({("c", "d"): 30})
        self.assertEqual(self.yard.between("e", "d"), 1)
        with self.assertRaises(NotReady):
            self.yard.between("a", "f")
        fill_up(self.yard)
        self.assertEqual(self.yard.between("a", "f"), 34)

    def test_refused_changes_change_nothing(self):
        fill_up(self.yard)
        with self.assertRaises(NoTurn) as caught:
            self.yard.change({("c", "d"): -1, ("d", "a"): 1, ("d", "d"): 0})
        self.assertEqual([caught.exception.source, caught.exception.target], ["d", "a"])
        with self.assertRaises(BadValue) as caught:
            self.yard.change({("c", "d"): 9, ("e", "f"): "no", ("d", "c"): True})
        self.assertIs(caught.exception.value, True)
        self.assertEqual([self.yard.net_now(), self.yard.waits, [self.yard.stamp(cell) for cell in ALL]], [ROW_NET, 0, [0] * 5])

    def test_twins(self):
        self.yard.take(0)
        self.yard.finish(0)
        self.yard.take(1)
        twin = self.yard.twin()
        self.assertEqual([twin.job(1), twin.waits, twin.table((1, 0)), repr(twin)], [((1, 1), 0), 4, {}, "Yard(5 cells)"])
        twin.change({("c", "d"): 8, ("a", "b"): 8})
        self.assertEqual([twin.finish(1), twin.stamp((1, 1)), twin.is_fresh((1, 0))], [False, 1, False])
        self.assertEqual([self.yard.stamp((1, 1)), self.yard.is_fresh((1, 0)), self.yard.net_now(), self.yard.job(1)], [0, True, ROW_NET, ((1, 1), 0)])
        self.assertIs(self.yard.finish(1), True)
        self.assertIs(twin.is_fresh((1, 1)), False)
        with self.assertRaises(UnknownWorker):
            Yard(ROW_NET, CELLS, workers=2).twin().take(2)
        self.assertEqual(Yard(ROW_NET, CELLS, workers=12).twin().take(11), (1, 0))

    def test_what_is_passed_and_told_may_be_changed(self):
        fill_up(self.yard)
        arcs = {("c", "d"): 8}
        self.yard.change(arcs)
        arcs[("d", "e")] = 90
        arcs.clear()
        self.yard.take(0)
        self.yard.finish(0)
        self.yard.table((1, 1)).clear()
        self.assertEqual([self.yard.table((1, 1)), self.yard.net_now().arc("c", "d")], [{("c", "d"): 8, ("d", "c"): 1}, 8])


class Model:
    """A yard in the words of [32]: what was changed, and who took what when."""

    def __init__(self, net, cells, workers):
        self.net, self.cells = net, cells
        self.changes = []
        self.jobs = {worker: None for worker in range(workers)}
        self.kept = {}

    def stamp(self, cell):
        """The number of changes that changed a turn with both roads in the cell."""
        lot = set(self.cells.lot(cell))
        return sum(any(set(turn) <= lot for turn in turns) for turns in self.changes)

    def is_fresh(self, cell):
        """Whether the last table that was kept has the present stamp."""
        return cell in self.kept and self.kept[cell][0] == self.stamp(cell)

    def change(self, arcs):
        self.changes.append([turn for turn in arcs if arcs[turn] != self.net.arc(*turn)])
        self.net = self.net.with_arcs(arcs)

    def take(self, worker, cell):
        if cell is None:
            begun = [(job[0], job[1]) for job in self.jobs.values() if job is not None]
            left = [cell for cell in self.cells.cells() if not self.is_fresh(cell) and (cell, self.stamp(cell)) not in begun]
            if not left:
                return None
            cell = left[0]
        self.jobs[worker] = (cell, self.stamp(cell), table_by_hand(self.net, self.cells.lot(cell)))
        return cell

    def finish(self, worker):
        cell, stamp, table = self.jobs[worker]
        self.jobs[worker] = None
        if stamp == self.stamp(cell):
            self.kept[cell] = (stamp, table)
            return True
        return False


class Many(TestCase):
    def look(self, yard, model):
        """Both have the same stamps, jobs and fresh tables."""
        cells = model.cells.cells()
        self.assertEqual(yard.net_now(), model.net)
        self.assertEqual([yard.stamp(cell) for cell in cells], [model.stamp(cell) for cell in cells])
        self.assertEqual([yard.is_fresh(cell) for cell in cells], [model.is_fresh(cell) for cell in cells])
        self.assertEqual(yard.waits, sum(not model.is_fresh(cell) for cell in cells))
        self.assertEqual([yard.job(worker) for worker in model.jobs], [None if job is None else job[:2] for job in model.jobs.values()])
        for cell in cells:
            if model.is_fresh(cell):
                self.assertEqual(list(yard.table(cell).items()), list(model.kept[cell][1].items()))
                self.assertEqual(yard.table(cell), cell_table(model.net, model.cells, cell))

    def look_between(self, yard, model):
        """What is told is the plain meaning of the present net, or a cell is not ready."""
        ways, told = Ways(model.net.shape), 0
        for u in model.net.shape.roads():
            for v in model.net.shape.roads():
                missing = [cell for cell in apart_by_hand(model.cells, u, v) if not model.is_fresh(cell)]
                if missing:
                    with self.assertRaises(NotReady) as caught:
                        yard.between(u, v)
                    self.assertEqual(caught.exception.cell, missing[0])
                else:
                    told += 1
                    self.assertEqual(yard.between(u, v), plain_between_by_hand(model.net, ways, u, v))
        return told

    def step(self, random, yard, model, values):
        """One call on both, which may be refused."""
        worker = random.choice(list(model.jobs))
        kind = random.choice(["take", "take", "take", "finish", "finish", "finish", "fall", "change", "bad"])
        if kind == "take":
            cell = random.choice([None, None, None, *model.cells.cells()])
            if model.jobs[worker] is None:
                self.assertEqual(yard.take(worker, cell), model.take(worker, cell))
            else:
                self.assertRaises(Busy, yard.take, worker, cell)
        elif kind == "finish" and model.jobs[worker] is not None:
            self.assertIs(yard.finish(worker), model.finish(worker))
        elif kind == "finish":
            self.assertRaises(Idle, yard.finish, worker)
        elif kind == "fall":
            model.jobs[worker] = None
            yard.fall(worker)
        elif kind == "change":
            turns = model.net.shape.turns()
            chosen = random.sample(turns, random.randint(0, min(2, len(turns))))
            arcs = {turn: random.choice([random.choice(values), None, model.net.arc(*turn)]) for turn in chosen}
            yard.change(arcs)
            model.change(arcs)
        else:
            for call in (lambda: yard.change({("a", "a"): 1}), lambda: yard.take(worker, (9, 9)), lambda: yard.finish(None)):
                self.assertRaises((ChartError, Missing, Refused), call)

    def run_rows(self, random, measure, values, steps):
        """A row of calls, with twins in between; how many pairs could be told at the end."""
        net = close_net(random, measure, values, 5)
        cells, workers = some_cells(random, net.shape), random.choice((1, 2, 3, 12))
        yard, model = Yard(net, cells, workers=workers), Model(net, cells, workers)
        for _ in range(steps):
            self.step(random, yard, model, values)
            self.look(yard, model)
            if random.random() < 0.1:
                old, yard = yard, yard.twin()
                old.fall(0)
                old.take(0)
                old.change({turn: None for turn in net.shape.turns()})
        return self.look_between(yard, model)

    def test_prices(self):
        random = Random(140)
        self.assertGreater(sum(self.run_rows(random, PRICE, [0, 1, 2, 3, 7], 40) for _ in range(40)), 200)

    def test_measures_of_each_kind(self):
        random = Random(141)
        for measure, values in small_samples():
            self.run_rows(random, measure, values, 25)

    def test_equal_orders_give_equal_yards(self):
        random = Random(142)
        net = close_net(random, PRICE, [1, 2], 6)
        cells = some_cells(random, net.shape)
        told = []
        for _ in range(2):
            yard = Yard(net, cells)
            fill_up(yard)
            told.append([[yard.between(u, v) for u in net.shape.roads() for v in net.shape.roads()], [yard.table(cell) for cell in cells.cells()]])
        self.assertEqual(told[0], told[1])


if __name__ == "__main__":
    main()

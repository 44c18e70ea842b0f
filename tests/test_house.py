"""The house ([44]), its history ([45]), and its questions by each of the words ([46])."""

from random import Random
from unittest import TestCase, main

from feeblind.cells import Cells
from feeblind.charts import Chart
from feeblind.dials import Dial
from feeblind.errors import (
    AtHome, BadCells, BadEdit, BadName, BadOrder, BadWay, DoubleRule, MeasureNotTaken, NothingLeft, NoTurn, OtherEnds, PlanNotTaken, TakenName,
    TooMany, UnknownName,
)
from feeblind.house import House
from feeblind.joint import First, Several
from feeblind.judging import judge_plan
from feeblind.measures import Price, Width
from feeblind.opentables import OpenTable
from feeblind.papers import Answer, AnswerPaper, judge_answer
from feeblind.plans import Plan, order_by_few, plan_of
from feeblind.roads import Road, Rule
from feeblind.rows import Open, Trade
from feeblind.sentences import judge_measure
from feeblind.shapes import shape_of
from feeblind.told import Told
from tests.celling import some_cells
from tests.charting import EXAMPLE, WHEELS, some_chart, some_charts
from tests.housing import PLACES, WORDS, Model, house_measures, is_set_of_ways, seen, some_edits
from tests.oracles import ODD
from tests.planning import full_plan

PRICE = Price("cost")
CHART = Chart.read(EXAMPLE)
BAD = Told(["free", "paid"], [["free", "free"], ["free", "paid"]], [["free", "free"], ["paid", "paid"]], "free")
DEARER = ("fees", Road("ab", "a", "b", prices={"cost": 9}))
CHEAPER = ("fees", Road("bd", "b", "d", prices={"cost": 1}))
NEW = ("add", Road("ad", "a", "d", prices={"cost": 1}))
CELLS = Cells([[["ab", "ac"], ["bd", "cb"], ["cd"]], [["ab", "ac"], ["bd", "cb", "cd"]]])


class Plain(TestCase):
    def setUp(self):
        self.house = House(CHART)

    def test_at_first(self):
        house = House(chart=CHART)
        plan = plan_of(shape_of(CHART), order_by_few(shape_of(CHART)))
        self.assertEqual(seen(house), [CHART, plan, None, (0, 0), 0, 0])
        self.assertEqual([len(house), bool(house), repr(house)], [5, True, "House(5 roads)"])
        order = ["cb", "bd", "ab", "ac", "cd"]
        self.assertEqual(House(CHART, order=order).plan_now(), plan_of(shape_of(CHART), order))

    def test_example(self):
        table = self.house.fees_table("a", "d", wish="cost")
        self.assertEqual(table.rows(), [(4, ("ac", "cb")), (5, ())])
        self.assertEqual([table.reading(fees={"ac": 1}), table.reading(shut=["cb"]), table.point((5, ())), table.breaking(), table.limit("ac"), self.house("a", "d")], [5, 5, ["ac", "cb"], [("ac",), ("cb",)], 1, 4])

    def test_orders(self):
        for order, road in ((["ab"], "ac"), (["ab", "ac", "bd", "cb", "cd", "zz"], "zz"), (["ab", "ab"], "ab"), (["ac", None], None), ((), "ab")):
            with self.assertRaises(BadOrder) as caught:
                House(CHART, order=order)
            self.assertEqual(caught.exception.road, road)

    def test_without_roads(self):
        house = House(Chart())
        self.assertEqual([len(house), bool(house), repr(house), house.plan_now(), house.table(measure=PRICE)], [0, True, "House(0 roads)", Plan([], []), {}])
        self.assertEqual(House(Chart(), order=[]), house)
        with self.assertRaises(UnknownName):
            house("a", "b")
        house.use_cells(Cells([[]]))
        house.use(Plan([], []))
        house.do(("add", Road("ab", "a", "b", prices={"cost": 5})))
        self.assertEqual([house("a", "b"), house.cells_now(), house.version, repr(house)], [5, None, 2, "House(1 roads)"])
        with self.assertRaises(UnknownName):
            house("a", "c")
        self.assertIsNone(house("b", "a"))

    def test_as_many_roads_as_a_chart_may_have(self):
        names = [one + other for one in "abcdefghijkl" for other in "abcdefghij"]
        house = House(Chart([Road(name, name, "x" + name, prices={"cost": 1}) for name in names]))
        before = seen(house)
        with self.assertRaises(TooMany) as caught:
            house.do(("fees", Road("aa", "aa", "xaa")), ("add", Road("zz", "aa", "ab")))
        self.assertEqual([caught.exception.what, caught.exception.count, seen(house)], ["roads", 121, before])
        house.do(("drop", "aa"), ("add", Road("zz", "xab", "xac")))
        self.assertEqual([house("ab", "xac"), house("ac", "xab"), len(house), house.work], [1, None, 120, 0])

    def test_deeds(self):
        self.assertIsNone(self.house.do(DEARER))
        self.assertEqual([self.house.version, self.house.history(), self.house.chart_now().road_named("ab").price("cost")], [1, (1, 0), 9])
        self.assertIsNone(self.house.undo())
        self.assertEqual([self.house.version, self.house.history(), self.house.chart_now()], [2, (0, 1), CHART])
        self.assertIsNone(self.house.redo())
        self.assertEqual([self.house.version, self.house.history(), self.house.chart_now().road_named("ab").price("cost")], [3, (1, 0), 9])
        self.house.do(NEW)
        self.house.undo()
        self.house.do(("free", "ac", "cb"))
        self.assertEqual([self.house.version, self.house.history()], [6, (2, 0)])

    def test_several_edits_are_one_step(self):
        self.house.do(DEARER, NEW, ("rule", Rule("ac", "cd", prices={"cost": 7})), ("drop", "cb"))
        self.assertEqual([self.house.version, self.house.history(), self.house.chart_now().names()], [1, (1, 0), ["ab", "ac", "ad", "bd", "cd"]])
        self.assertEqual([self.house("a", "d"), self.house.tried(("drop", "ad"), start="a", goal="d", measure=PRICE).value], [1, 11])
        self.house.undo()
        self.assertEqual(self.house.chart_now(), CHART)

    def test_calls_without_edits(self):
        self.house.do(CHEAPER)
        self.house.undo()
        self.house("a", "d")
        before = seen(self.house)
        self.assertIsNone(self.house.do())
        self.assertEqual(seen(self.house), before)
        self.house.redo()
        self.assertGreater(self.house.work, 0)
        work = self.house.work
        self.house.do()
        self.assertEqual(self.house.work, work)

    def test_nothing_left(self):
        for call in (self.house.undo, self.house.redo):
            self.assertRaises(NothingLeft, call)
        self.house.do(DEARER)
        self.assertRaises(NothingLeft, self.house.redo)
        self.house.undo()
        self.assertRaises(NothingLeft, self.house.undo)
        self.house.redo()
        self.assertRaises(NothingLeft, self.house.redo)
        self.assertEqual([self.house.version, self.house.history()], [3, (1, 0)])

    def test_a_refused_edit_in_the_middle_changes_nothing(self):
        self.house("a", "d")
        self.house.use_cells(CELLS)
        self.house.do(CHEAPER)
        self.house.undo()
        before = seen(self.house)
        calls = [
            ((DEARER, ("add", Road("bd", "a", "b")), "no"), BadEdit, {"at": 2}),
            (("no", DEARER), BadEdit, {"at": 0}),
            ((NEW, ("add", Road("ad", "x", "y")), ("drop", "zz")), TakenName, {"name": "ad"}),
            ((DEARER, ("drop", "zz"), NEW), UnknownName, {"name": "zz"}),
            ((("drop", "cb"), ("drop", "cb")), UnknownName, {"name": "cb"}),
            ((DEARER, ("fees", Road("ac", "a", "d"))), OtherEnds, {"name": "ac"}),
            ((("fees", Road("zz", "a", "d")),), UnknownName, {"name": "zz"}),
            ((("drop", "cb"), ("rule", Rule("ac", "cb"))), NoTurn, {"source": "ac", "target": "cb"}),
            ((DEARER, ("free", "ac", [1])), NoTurn, {"source": "ac", "target": [1]}),
        ]
        for edits, error, values in calls:
            for call in (lambda: self.house.do(*edits), lambda: self.house.tried(*edits, start="a", goal=7, measure=BAD)):
                with self.assertRaises(error) as caught:
                    call()
                self.assertEqual({name: getattr(caught.exception, name) for name in values}, values)
                self.assertEqual(seen(self.house), before)
        self.house.redo()
        self.assertGreater(self.house.work, 0)
        self.assertTrue(issubclass(DoubleRule, ValueError))

    def test_values_that_are_no_edits(self):
        before = seen(self.house)
        wrong = ODD + [("add", "ab"), ("fees", None), ("rule", Road("ab", "a", "b")), ("drop",), ("drop", "ab", "x"), ("free", "ab"), ["drop", "ab"], ("add", Road("zz", "a", "b"), 1)]
        for value in wrong:
            with self.assertRaises(BadEdit) as caught:
                self.house.do(("drop", "zz"), value, "no")
            self.assertEqual([caught.exception.at, seen(self.house)], [1, before])

    def test_plans(self):
        self.house.use_cells(CELLS)
        self.house("a", "d")
        self.house.do(DEARER)
        plan = Plan(["cd", "ac", "ab", "bd", "cb"], [(u, v) for u in CHART.names() for v in CHART.names() if u != v])
        self.assertIsNone(self.house.use(plan=plan))
        self.assertEqual([self.house.plan_now(), self.house.version, self.house.work, self.house.cells_now(), self.house.history()], [plan, 2, 0, CELLS, (1, 0)])
        self.house.undo()
        self.assertEqual([self.house.plan_now(), self.house.work, self.house("a", "d")], [plan, 0, 4])

    def test_plans_that_are_refused(self):
        before = seen(self.house)
        less = Plan(["cb", "bd", "ab", "ac", "cd"], shape_of(CHART).turns())
        with self.assertRaises(PlanNotTaken) as caught:
            self.house.use(less)
        self.assertEqual(caught.exception.refused, judge_plan(shape_of(CHART), less))
        for order, road in ((["ab"], "ac"), ([*CHART.names(), "aa"], "aa"), ([], "ab")):
            with self.assertRaises(BadOrder) as caught:
                self.house.use(Plan(order, []))
            self.assertEqual([caught.exception.road, seen(self.house)], [road, before])

    def test_cells(self):
        self.assertIsNone(self.house.use_cells(cells=CELLS))
        self.assertEqual(seen(self.house)[2:], [CELLS, (0, 0), 0, 0])
        before = seen(self.house)
        for lots, road in ((["ab"], "ac"), ([*CHART.names(), "zz"], "zz")):
            with self.assertRaises(BadCells) as caught:
                self.house.use_cells(Cells([[lots]]))
            self.assertEqual([caught.exception.road, seen(self.house)], [road, before])
        self.house.do(DEARER)
        self.assertEqual([self.house.cells_now(), self.house.ask("a", "d", measure=PRICE, by="cells").value], [CELLS, 4])
        self.house.do(NEW)
        self.assertIsNone(self.house.cells_now())
        self.house.undo()
        with self.assertRaises(BadWay):
            self.house.ask("a", "d", measure=PRICE, by="cells")
        with self.assertRaises(BadCells):
            self.house.redo()
            self.house.use_cells(CELLS)

    def test_a_change_of_the_shape_there_and_back_in_one_call(self):
        self.house.use_cells(CELLS)
        self.house("a", "d")
        plan = self.house.plan_now()
        self.house.do(("drop", "cb"), ("add", Road("cb", "c", "b", prices={"cost": 4})))
        self.assertEqual([self.house.cells_now(), self.house.plan_now(), self.house.work > 0, self.house("a", "d")], [CELLS, plan, True, 5])

    def test_equality(self):
        other = House(CHART)
        other("a", "d")
        other.use_cells(CELLS)
        other.do(DEARER)
        self.assertNotEqual(self.house, other)
        other.undo()
        self.assertEqual(self.house, other)
        self.assertNotEqual(self.house, House(CHART, order=["cd", "cb", "bd", "ab", "ac"]))
        self.assertNotEqual(self.house, CHART)

    def test_twins(self):
        self.house("a", "d")
        self.house.use_cells(CELLS)
        self.house.do(DEARER)
        self.house.do(NEW)
        self.house.undo()
        twin = self.house.twin()
        self.assertEqual([seen(twin), twin], [seen(self.house), self.house])
        before = seen(self.house)
        twin.redo()
        twin.undo()
        twin.undo()
        twin.do(NEW, ("drop", "ab"))
        self.assertEqual([seen(self.house), twin.history(), twin.version], [before, (1, 0), 7])
        self.house.undo()
        self.assertEqual([self.house.history(), len(twin)], [(0, 2), 5])
        self.assertEqual([twin("a", "d"), self.house("a", "d")], [1, 4])


class Asking(TestCase):
    def setUp(self):
        self.house = House(CHART)
        self.house.use_cells(CELLS)

    def test_some(self):
        for word in WORDS:
            answer = self.house.ask("a", "d", measure=PRICE, by=word)
            self.assertEqual([answer.value, answer.ways(), answer.paper], [4, [("ac", "cb", "bd")], None])
            self.assertIs(type(answer), Answer)
        answer = self.house.ask(start="a", goal="d", measure=PRICE, wheel="bus", by="plan", paper=True)
        self.assertIs(type(answer.paper), AnswerPaper)
        self.assertEqual([answer.paper.claim, answer.paper.ways()], [4, [("ac", "cb", "bd")]])
        answer = self.house.ask("d", "a", measure=Width())
        self.assertEqual([answer.value, answer.ways(), answer.paper], [None, [], None])
        self.assertEqual(self.house(start="a", goal="c"), 1)

    def test_a_question_from_a_place_to_itself(self):
        for measure in house_measures():
            for word in WORDS:
                if word != "led" or measure == PRICE:
                    answer = self.house.ask("c", "c", measure=measure, by=word, paper=True)
                    self.assertEqual([answer.value, answer.ways(), answer.paper], [measure.stay, [()], None])
        self.assertEqual(self.house("d", "d"), 0)
        self.house.do(CHEAPER)
        self.assertEqual(self.house.work, 0)
        for by in ("led", "no"):
            with self.assertRaises(BadWay):
                self.house.ask("c", "c", measure=Width(), by=by)
        with self.assertRaises(MeasureNotTaken):
            self.house.ask("c", "c", measure=BAD)

    def test_unknown_places(self):
        known = list("abcd")
        for value in [value for value in ODD if value not in known] + ["ab", "z"]:
            for start, goal in ((value, "a"), (value, "zz"), ("a", value), (value, value)):
                calls = [
                    lambda: self.house.ask(start, goal, measure=BAD, by=None), lambda: self.house.fees_table(start, goal, wish=7), lambda: self.house(start, goal),
                    lambda: self.house.tried(start=start, goal=goal, measure=BAD), lambda: self.house.tried(DEARER, start=start, goal=goal, measure=PRICE),
                ]
                for call in calls:
                    with self.assertRaises(UnknownName) as caught:
                        call()
                    self.assertIs(caught.exception.name, goal if start == "a" else start)

    def test_refused_measures(self):
        for measure in (BAD, Several(PRICE, BAD)):
            for call in (lambda: self.house.ask("a", "d", measure=measure, by="no"), lambda: self.house.table(measure=measure), lambda: self.house.tried(DEARER, start="a", goal="a", measure=measure)):
                with self.assertRaises(MeasureNotTaken) as caught:
                    call()
                self.assertEqual(caught.exception.refused, judge_measure(BAD))
        self.house.do(CHEAPER)
        self.assertEqual(self.house.work, 0)

    def test_words(self):
        for by in ODD + ["Plan", "plan ", "table", ["plan"], "round"]:
            with self.assertRaises(BadWay) as caught:
                self.house.ask("a", "d", measure=PRICE, by=by)
            self.assertIs(caught.exception.word, by)
        for measure in house_measures()[2:] + [First("cost", PRICE)]:
            with self.assertRaises(BadWay) as caught:
                self.house.ask("a", "d", measure=measure, by="led")
            self.assertEqual(caught.exception.word, "led")
        with self.assertRaises(BadWay) as caught:
            House(CHART).ask("a", "d", measure=PRICE, by="cells")
        self.assertEqual(caught.exception.word, "cells")
        self.house.do(CHEAPER)
        self.assertEqual(self.house.work, 0)

    def test_which_questions_make_a_kept_plan(self):
        asked = [
            (False, lambda house: house.ask("a", "d", measure=PRICE, by="hubs")), (False, lambda house: house.ask("a", "d", measure=PRICE, by="cells", paper=True)),
            (False, lambda house: house.ask("a", "d", measure=PRICE, by="led")), (False, lambda house: house.ask("a", "d", measure=PRICE, by="rounds")),
            (False, lambda house: house.ask("a", "a", measure=PRICE)), (False, lambda house: house("b", "b")), (False, lambda house: house.fees_table("a", "d", wish="cost")),
            (False, lambda house: house.tried(start="a", goal="d", measure=PRICE)), (False, lambda house: house.tried(DEARER, start="a", goal="d", measure=PRICE)),
            (True, lambda house: house.ask("a", "d", measure=PRICE)), (True, lambda house: house("d", "a")), (True, lambda house: house.table(measure=PRICE)),
            (True, lambda house: house.ask("a", "d", measure=PRICE, by="plan", paper=True)), (False, lambda house: house.twin().table(measure=PRICE)),
        ]
        for kept, call in asked:
            house = House(CHART)
            house.use_cells(CELLS)
            call(house)
            self.assertEqual([house.version, house.work], [0, 0])
            house.do(CHEAPER)
            self.assertEqual(house.work, 2 if kept else 0)

    def test_work_counts_each_pair_of_a_wheel_and_a_measure_once(self):
        for _ in range(2):
            self.house("a", "d")
            self.house.ask("a", "c", measure=Price("cost"))
            self.house.table(measure=PRICE, wheel="car")
            self.house.ask("a", "c", measure=PRICE, wheel="van")
            self.house.table(measure=Price("toll"))
        self.house.do(CHEAPER)
        self.assertEqual(self.house.work, 4)
        self.house.do(("fees", Road("bd", "b", "d", prices={"cost": 1}, mark="x")))
        self.assertEqual(self.house.work, 0)
        self.house.do(("fees", Road("bd", "b", "d", prices={"cost": 1}, wheels=["van"])))
        self.assertEqual(self.house.work, 4)
        self.house.use(self.house.plan_now())
        self.house.undo()
        self.assertEqual(self.house.work, 0)

    def test_entries_are_those_of_the_present_chart(self):
        self.assertEqual(self.house("a", "b"), 2)
        self.house.do(("fees", Road("ac", "a", "c", prices={"cost": 7})))
        self.assertEqual([self.house("a", "b"), self.house("a", "c")], [3, 7])

    def test_tables(self):
        self.assertEqual(House(CHART, order=["cb", "bd", "ab", "ac", "cd"]).table(measure=PRICE), {("ab", "bd"): 2, ("ac", "bd"): 3, ("ac", "cb"): 1, ("ac", "cd"): 5, ("cb", "bd"): 2})
        self.house.do(("fees", Road("cb", "c", "b", wheels=["bus"])))
        self.assertNotIn(("ac", "cb"), self.house.table(measure=PRICE))
        self.assertIn(("ac", "cb"), self.house.table(measure=PRICE, wheel="bus"))
        told = self.house.table(measure=Width())
        told.clear()
        self.assertEqual(len(self.house.table(measure=Width())), 3)

    def test_fees_tables(self):
        house = House(Chart([*CHART.roads(), Road("ad", "a", "d", wheels=["van"], doubtful=True, prices={"cost": 1, "toll": 2})]))
        self.assertEqual(house.fees_table(start="a", goal="d", wish="cost").doubts(), ["ac", "cb"])
        table = house.fees_table("a", "d", wish="cost", wheel="van")
        self.assertEqual(table, OpenTable(["ac", "ad", "cb"], ((1, ("ad",)), (4, ("ac", "cb")), (5, ()))))
        self.assertEqual(house.fees_table("a", "d", wish="toll", wheel="van").rows(), [(0, ())])
        self.assertEqual(house.fees_table("d", "a", wish="cost"), OpenTable(["ac", "cb"], None))
        for wish in [value for value in ODD if value not in ("a", "car", "abcdefgh")]:
            for goal in ("d", "a"):
                with self.assertRaises(BadName) as caught:
                    house.fees_table("a", goal, wish=wish)
                self.assertIs(caught.exception.value, wish)
        with self.assertRaises(AtHome) as caught:
            house.fees_table("c", "c", wish="cost")
        self.assertEqual(caught.exception.place, "c")

    def test_tried(self):
        before = seen(self.house)
        answer = self.house.tried(DEARER, ("drop", "cb"), start="a", goal="d", measure=PRICE)
        self.assertEqual([answer.value, answer.ways(), answer.paper, seen(self.house)], [6, [("ac", "cd")], None, before])
        self.assertEqual(self.house.tried(start="a", goal="a", measure=Width()).ways(), [()])
        self.assertEqual(self.house.tried(("add", Road("de", "d", "e")), start="a", goal="e", measure=PRICE, wheel="van").value, 4)
        with self.assertRaises(UnknownName):
            self.house.tried(("drop", "bd"), ("drop", "cd"), start="a", goal="d", measure=PRICE)
        self.assertEqual(seen(self.house), before)

    def test_what_is_told_may_be_changed(self):
        answer = self.house.ask("a", "d", measure=PRICE, paper=True)
        answer.ways().append("x")
        answer.paper.marks().clear()
        answer.paper.ways().clear()
        again = self.house.ask("a", "d", measure=PRICE, paper=True)
        self.assertEqual([again, again.ways(), again.paper], [answer, answer.ways(), answer.paper])
        self.assertEqual(answer.ways(), [("ac", "cb", "bd")])


class Many(TestCase):
    def look(self, house, model):
        """Both have the same parts, and the house has the tables of the kept plans."""
        self.assertEqual(seen(house), model.state())
        for wheel, measure in model.keeps:
            told = house.twin().table(measure=measure, wheel=wheel)
            self.assertEqual(list(told.items()), list(model.table(wheel, measure).items()))

    def look_at_answer(self, house, model, measure, wheel, start, goal):
        """All words that may be asked for give the plain answer, with a set of ways and a paper that is taken."""
        net, begins, ends = model.question(start, goal, wheel, measure)
        wanted = measure.stay if start == goal else model.answer(start, goal, wheel, measure)
        for word in WORDS:
            if word == "cells" and model.cells is None or word == "led" and not isinstance(measure, Price):
                self.assertRaises(BadWay, house.ask, start, goal, measure=measure, wheel=wheel, by=word)
                continue
            answer = house.ask(start, goal, measure=measure, wheel=wheel, by=word, paper=True)
            self.assertEqual(answer.value, wanted)
            if word == "plan" and start != goal:
                model.keep(wheel, measure)
            if start == goal:
                self.assertEqual([answer.ways(), answer.paper], [[()], None])
            else:
                self.assertTrue(is_set_of_ways(net, begins, ends, answer.ways()))
                self.assertTrue(judge_answer(net, begins, ends, answer.paper).taken)
                self.assertEqual(answer.paper.claim, wanted)
                self.assertIsNone(house.ask(start, goal, measure=measure, wheel=wheel, by=word).paper)

    def step(self, random, house, model, measures):
        """One call on both."""
        kind = random.choice(["do"] * 6 + ["undo", "undo", "redo", "redo", "use", "cells", "cells", "table", "tried", "refused"])
        measure, wheel = random.choice(measures), random.choice(WHEELS)
        if kind == "do":
            edits = some_edits(random, model.chart)
            house.do(*edits)
            model.do(edits)
        elif kind in ("undo", "redo"):
            if model.done if kind == "undo" else model.undone:
                (house.undo if kind == "undo" else house.redo)()
                (model.undo if kind == "undo" else model.redo)()
            else:
                self.assertRaises(NothingLeft, house.undo if kind == "undo" else house.redo)
        elif kind == "use":
            plan = full_plan(random, shape_of(model.chart))
            house.use(plan)
            model.use(plan)
        elif kind == "cells":
            model.cells = some_cells(random, shape_of(model.chart))
            house.use_cells(model.cells)
        elif kind == "table":
            model.keep(wheel, measure)
            self.assertEqual(house.table(measure=measure, wheel=wheel), model.table(wheel, measure))
        elif kind == "tried":
            edits = some_edits(random, model.chart) if random.random() < 0.8 else []
            other = model.twin()
            other.do(edits)
            places = other.chart.places()
            if len(places) > 1:
                start, goal = random.sample(places, 2)
                told = house.tried(*edits, start=start, goal=goal, measure=measure, wheel=wheel)
                self.assertEqual(told.value, other.answer(start, goal, wheel, measure))
                behind = house.twin()
                behind.do(*edits)
                self.assertEqual(told.ways(), behind.ask(start, goal, measure=measure, wheel=wheel).ways())
        else:
            edits = some_edits(random, model.chart) + [("drop", "zzz")]
            self.assertRaises(UnknownName, house.do, *edits)
            self.assertRaises(UnknownName, house.tried, *edits, start="a", goal="b", measure=measure)

    def run_rows(self, random, measures, steps):
        """A row of calls on a house and on a model of it."""
        chart = some_chart(random, 5, PLACES)
        house, model = House(chart), Model(chart)
        for _ in range(steps):
            self.step(random, house, model, measures)
            if random.random() < 0.15:
                old, house = house, house.twin()
                old.do(*some_edits(random, old.chart_now()))
                old.use_cells(some_cells(random, shape_of(old.chart_now())))
            self.look(house, model)
            places = model.chart.places()
            if places and random.random() < 0.5:
                self.look_at_answer(house, model, random.choice(measures), random.choice(WHEELS), random.choice(places), random.choice(places))
        self.look(house, model)

    def test_prices(self):
        random = Random(220)
        for _ in range(12):
            self.run_rows(random, [PRICE, Price("toll")], 25)

    def test_measures_of_each_kind(self):
        random = Random(221)
        for measure in house_measures():
            for _ in range(2):
                self.run_rows(random, [PRICE, measure], 16)

    def test_orders_that_are_given(self):
        random = Random(222)
        for chart in some_charts(223, 10, 6, PLACES):
            order = random.sample(chart.names(), len(chart))
            self.assertEqual(seen(House(chart, order=order)), Model(chart, order).state())
            self.assertEqual(seen(House(chart, order=tuple(order))), Model(chart, order).state())

    def test_a_large_house(self):
        random = Random(224)
        chart = some_charts(225, 1, 100, "abcdefghijklmnopqrstuvwxyz")[0]
        house = House(chart)
        house.use_cells(some_cells(random, shape_of(chart)))
        for measure in (PRICE, Width(), Trade("cost", "time"), Dial("cost", "toll", 9)):
            for start, goal in (("a", "b"), ("z", "m")):
                words = [word for word in WORDS if word != "led" or measure == PRICE]
                values = [house.ask(start, goal, measure=measure, by=word).value for word in words]
                self.assertEqual(values, values[:1] * len(words))
        house.do(("fees", Road(chart.names()[7], chart.roads()[7].tail, chart.roads()[7].head, prices={"cost": 3})))
        kept = house.table(measure=PRICE)
        house.use(house.plan_now())
        self.assertEqual(house.table(measure=PRICE), kept)
        answer = house.ask("a", "b", measure=Open("cost"), by="rounds")
        self.assertEqual(list(answer.value), house.fees_table("a", "b", wish="cost").rows())


if __name__ == "__main__":
    main()

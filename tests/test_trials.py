"""Trials of a house ([47])."""

from random import Random
from unittest import TestCase, main

from feeblind.cells import Cells
from feeblind.charts import Chart
from feeblind.errors import BadEdit, TakenName, UnknownName
from feeblind.house import House
from feeblind.measures import Price, Width
from feeblind.roads import Road
from feeblind.shapes import shape_of
from feeblind.trials import Trial, held_text, text_behind
from tests.celling import some_cells
from tests.charting import EXAMPLE, some_chart
from tests.housing import PLACES, Model, seen, some_edits
from tests.planning import full_plan

PRICE = Price("cost")
CHART = Chart.read(EXAMPLE)
CHEAPER = ("fees", Road("bd", "b", "d", prices={"cost": 1}))
FREE = ("fees", Road("bd", "b", "d"))
NEW = ("add", Road("ad", "a", "d", prices={"cost": 1}))
CELLS = Cells([[["ab", "ac"], ["bd", "cb"], ["cd"]]])


class Broken(Exception):
    """An error of the tests' own."""


def used_house():
    """A house with a history, cells and a kept plan."""
    house = House(CHART)
    house.do(NEW)
    house.undo()
    house.do(FREE)
    house.undo()
    house.do(CHEAPER)
    house.use_cells(CELLS)
    house("a", "d")
    house.do(FREE)
    house.undo()
    return house


def kept_work(house):
    """The work of a deed, which shows the kept plans; the house stays as it is."""
    twin = house.twin()
    twin.do(("fees", Road("bd", "b", "d", prices={"cost": 77})))
    return twin.work


class Trials(TestCase):
    def setUp(self):
        self.house = used_house()
        self.before = seen(self.house)
        self.work = kept_work(self.house)

    def as_before(self):
        """The house is as it was."""
        self.assertEqual([seen(self.house), kept_work(self.house)], [self.before, self.work])
        self.assertEqual(self.house("a", "d"), 3)

    def use_it(self, house):
        """Deeds of each kind, and questions."""
        house.redo()
        house.undo()
        house.undo()
        house("a", "d")
        house.table(measure=Width(), wheel="van")
        house.do(NEW)
        house.use_cells(Cells([[["ab", "ac", "ad", "bd", "cb", "cd"]]]))
        house.use(full_plan(Random(230), shape_of(house.chart_now())))
        self.assertEqual(house("a", "d"), 1)

    def test_left(self):
        with Trial(self.house) as held:
            self.assertIs(type(held), Trial)
            self.use_it(self.house)
            self.assertNotEqual(seen(self.house), self.before)
        self.as_before()
        self.assertEqual(self.house.work, 2)

    def test_the_house_is_used_as_ever(self):
        other = used_house()
        self.use_it(other)
        with Trial(house=self.house):
            self.use_it(self.house)
            self.assertEqual(seen(self.house), seen(other))

    def test_kept(self):
        with Trial(self.house) as held:
            self.assertIsNone(held.keep())
            self.use_it(self.house)
            held.keep()
            within = seen(self.house)
        self.assertEqual([seen(self.house), self.house("a", "d")], [within, 1])

    def test_left_by_an_error(self):
        for error in (Broken, BadEdit, KeyError, GeneratorExit):
            with self.assertRaises(error):
                with Trial(self.house):
                    self.use_it(self.house)
                    raise error(1)
            self.as_before()
        with self.assertRaises(UnknownName):
            with Trial(self.house):
                self.house.do(CHEAPER)
                self.house.do(("drop", "zz"))
        self.as_before()

    def test_kept_and_left_by_an_error(self):
        with self.assertRaises(Broken):
            with Trial(self.house) as held:
                self.house.do(NEW)
                held.keep()
                raise Broken()
        self.assertEqual([self.house.chart_now().names()[2], self.house.version], ["ad", self.before[4] + 1])

    def test_left_by_return_and_break(self):
        def left():
            with Trial(self.house):
                self.use_it(self.house)
                return self.house("a", "d")
        self.assertEqual(left(), 1)
        self.as_before()
        for _ in range(2):
            with Trial(self.house):
                self.use_it(self.house)
                break
        self.as_before()

    def test_nested(self):
        with Trial(self.house):
            self.house.do(NEW)
            within = seen(self.house)
            with Trial(self.house):
                self.house.do(("drop", "ab"))
            self.assertEqual(seen(self.house), within)
            with Trial(self.house) as held:
                self.house.do(("drop", "ac"))
                held.keep()
            self.assertEqual(self.house.chart_now().names(), ["ab", "ad", "bd", "cb", "cd"])
        self.as_before()

    def test_a_trial_in_a_kept_one(self):
        with Trial(self.house) as outer:
            self.house.do(NEW)
            with Trial(self.house) as inner:
                self.house.do(("drop", "ab"))
                outer.keep()
            self.assertIsNot(outer, inner)
            self.assertIn("ab", self.house.chart_now())
        self.assertEqual(self.house.chart_now().names(), ["ab", "ac", "ad", "bd", "cb", "cd"])

    def test_keep_counts_only_within_the_block(self):
        trial = Trial(self.house)
        trial.keep()
        with trial:
            self.house.do(NEW)
        self.as_before()
        trial.keep()
        self.as_before()
        # A trial holds what the house has when the block is entered.
        trial = Trial(self.house)
        self.house.do(CHEAPER)
        version = self.house.version
        with trial:
            self.house.do(NEW)
        self.assertEqual(self.house.version, version)

    def test_history_within_and_behind(self):
        with Trial(self.house):
            self.house.undo()
            self.assertEqual(self.house.history(), (0, 2))
            self.house.do(NEW)
            self.assertEqual(self.house.history(), (1, 0))
        self.assertEqual(self.house.history(), (1, 1))
        self.house.redo()
        self.assertEqual(self.house.chart_now().road_named("bd").price("cost"), 0)

    def test_kept_plans_that_were_made_within_are_gone(self):
        house = House(CHART)
        with Trial(house):
            house("a", "d")
            house.do(CHEAPER)
            self.assertEqual(house.work, 2)
        house.do(CHEAPER)
        self.assertEqual([house.work, house("a", "d")], [0, 3])

    def test_many(self):
        random = Random(231)
        for _ in range(40):
            chart = some_chart(random, 5, PLACES)
            house, model = House(chart), Model(chart)
            for _ in range(6):
                keep, edits, others = random.random() < 0.4, some_edits(random, model.chart), None
                other = model.twin()
                with Trial(house) as held:
                    house.table(measure=PRICE)
                    other.keep("car", PRICE)
                    house.do(*edits)
                    other.do(edits)
                    if random.random() < 0.5:
                        house.undo()
                        other.undo()
                    others = other.state()
                    with Trial(house):
                        house.use_cells(some_cells(random, shape_of(other.chart)))
                        house.do(*some_edits(random, other.chart))
                    self.assertEqual(seen(house), others)
                    if keep:
                        held.keep()
                model = other if keep else model
                self.assertEqual(seen(house), model.state())


class Texts(TestCase):
    def setUp(self):
        self.house = used_house()
        self.before = seen(self.house)

    def test_held(self):
        text = self.house.chart_now().text()
        self.assertEqual(held_text(self.house, [NEW, ("drop", "ab")], False), text)
        self.assertEqual(held_text(house=self.house, edits=(), keep=True), text)
        self.assertEqual(seen(self.house), self.before)
        told = held_text(self.house, (NEW, ("drop", "ab")), True)
        self.assertEqual([told, self.house.history()], [self.house.chart_now().text(), (2, 0)])
        self.assertEqual(Chart.read(told).names(), ["ac", "ad", "bd", "cb", "cd"])

    def test_behind(self):
        told = text_behind(self.house, NEW, ("drop", "ab"))
        self.assertEqual([Chart.read(told).names(), seen(self.house)], [["ac", "ad", "bd", "cb", "cd"], self.before])
        self.assertEqual(text_behind(self.house), self.house.chart_now().text())
        self.assertEqual(seen(self.house), self.before)

    def test_errors(self):
        for edits, error in (([NEW, "no"], BadEdit), ([NEW, NEW], TakenName), ([CHEAPER, ("drop", "zz")], UnknownName)):
            for call in (lambda: held_text(self.house, edits, True), lambda: held_text(self.house, edits, False), lambda: text_behind(self.house, *edits)):
                with self.assertRaises(error):
                    call()
                self.assertEqual(seen(self.house), self.before)


if __name__ == "__main__":
    main()

"""A model of a house for tests, in the words of [44] and [45], and rows of calls on both."""

from feeblind.charts import Chart
from feeblind.dials import Dial
from feeblind.hours import Hours
from feeblind.joint import First, Several
from feeblind.measures import Price, Width
from feeblind.nets import net_of
from feeblind.plans import Plan
from feeblind.rows import Open, Trade
from feeblind.shapes import shape_of
from tests.charting import Ways, folded, plain_by_hand, some_road, some_rule, turns_by_hand, worth_by_hand
from tests.planning import few_by_hand, filled_by_hand, low_pairs_by_walk, worked_by_hand
from tests.samples import capped

PLACES = "abc"
WORDS = ["plan", "hubs", "cells", "led", "rounds"]


def house_measures():
    """Measures of each kind that are taken, in which the roads of charts for tests have values."""
    return [
        Price("cost"), Price("toll"), Width(), Trade("cost", "time"), Open("cost"), Dial("cost", "toll", 3), Hours(8),
        capped(["zero", "one", "two"]), First("toll", Width()), Several(Price("cost"), capped(["low", "mid"])),
    ]


def edited_by_hand(chart, edit):
    """The chart with one edit done, which must fit."""
    roads = {road.name: road for road in chart.roads()}
    rules = {(rule.source, rule.target): rule for rule in chart.rules()}
    word, what = edit[0], edit[1]
    if word in ("add", "fees"):
        roads[what.name] = what
    elif word == "drop":
        del roads[what]
        rules = {turn: rule for turn, rule in rules.items() if what not in turn}
    elif word == "rule":
        rules[(what.source, what.target)] = what
    else:
        rules.pop(edit[1:], None)
    return Chart(list(roads.values()), list(rules.values()))


def some_edit(random, chart, most=6):
    """An edit that fits a chart, which then has at most so many roads."""
    names, turns = chart.names(), turns_by_hand(chart.roads())
    kinds = ["fees"] * 5 if names else []
    kinds += ["rule", "rule", "rule", "free"] if turns else []
    kinds += ["add"] if len(names) < most else []
    kinds += ["drop"] if len(names) > 2 else []
    kind = random.choice(kinds)
    if kind == "add":
        name = random.choice([one + other for one in "pqr" for other in "stu" if one + other not in names])
        return ("add", some_road(random, name, random.choice(PLACES), random.choice(PLACES)))
    if kind == "drop":
        return ("drop", random.choice(names))
    if kind == "fees":
        old = chart.road_named(random.choice(names))
        return ("fees", some_road(random, old.name, old.tail, old.head))
    source, target = random.choice(turns)
    return ("rule", some_rule(random, source, target)) if kind == "rule" else ("free", source, target)


def some_edits(random, chart, most=6):
    """One edit or more that fit a chart one behind the other; some of them lead back to an equal shape."""
    edits = []
    for _ in range(random.choice([1, 1, 1, 2, 3])):
        edits.append(some_edit(random, chart, most))
        chart = edited_by_hand(chart, edits[-1])
    if random.random() < 0.1 and chart.names():
        road = chart.road_named(random.choice(chart.names()))
        edits += [("drop", road.name), ("add", road)]
    return edits


def fitted_by_hand(plan, shape):
    """The plan fitted to a shape, in the words of [18]."""
    order = [road for road in plan.order() if road in shape.roads()]
    order += [road for road in shape.roads() if road not in order]
    pairs = [pair for pair in plan.pairs() if pair[0] in order and pair[1] in order]
    return Plan(order, pairs + low_pairs_by_walk(shape, order))


class Model:
    """What a house has, worked out anew at each step."""

    def __init__(self, chart, order=None):
        shape = shape_of(chart)
        order = few_by_hand(shape) if order is None else order
        self.chart, self.plan, self.cells = chart, Plan(order, low_pairs_by_walk(shape, order)), None
        self.keeps = []
        self.done, self.undone = [], []
        self.version, self.work = 0, 0

    def twin(self):
        """A model in the same state."""
        other = Model(self.chart, self.plan.order())
        other.plan, other.cells, other.keeps = self.plan, self.cells, list(self.keeps)
        other.done, other.undone = list(self.done), list(self.undone)
        other.version, other.work = self.version, self.work
        return other

    def deed(self, chart):
        """Behind a deed that leads to a chart."""
        old, self.chart = self.chart, chart
        self.version += 1
        if shape_of(old) == shape_of(chart):
            nets = [[net_of(one, measure, wheel=wheel) for one in (old, chart)] for wheel, measure in self.keeps]
            self.work = sum(len(worked_by_hand(*pair, self.plan)[0]) for pair in nets)
        else:
            self.plan, self.cells, self.keeps, self.work = fitted_by_hand(self.plan, shape_of(chart)), None, [], 0

    def do(self, edits):
        if edits:
            chart = self.chart
            for edit in edits:
                chart = edited_by_hand(chart, edit)
            self.done, self.undone = self.done + [self.chart], []
            self.deed(chart)

    def undo(self):
        self.undone = self.undone + [self.chart]
        self.deed(self.done.pop())

    def redo(self):
        self.done = self.done + [self.chart]
        self.deed(self.undone.pop())

    def use(self, plan):
        self.plan, self.keeps, self.work = plan, [], 0
        self.version += 1

    def keep(self, wheel, measure):
        if not any(one == wheel and other == measure for one, other in self.keeps):
            self.keeps = self.keeps + [(wheel, measure)]

    def table(self, wheel, measure):
        """The table of the plan for the present net."""
        return filled_by_hand(net_of(self.chart, measure, wheel=wheel), self.plan)

    def question(self, start, goal, wheel, measure):
        """The net, the begins and the ends of a question."""
        net = net_of(self.chart, measure, wheel=wheel)
        begins = {road.name: net.entry(road.name) for road in self.chart.roads() if road.tail == start}
        ends = [road.name for road in self.chart.roads() if road.head == goal]
        return net, {road: begins[road] for road in begins if begins[road] is not None}, ends

    def answer(self, start, goal, wheel, measure):
        """The plain answer."""
        net, begins, ends = self.question(start, goal, wheel, measure)
        return plain_by_hand(net, Ways(net.shape), begins, ends)

    def state(self):
        """What can be seen of the house without asking it."""
        return [self.chart, self.plan, self.cells, (len(self.done), len(self.undone)), self.version, self.work]


def seen(house):
    """What can be seen of a house without asking it."""
    return [house.chart_now(), house.plan_now(), house.cells_now(), house.history(), house.version, house.work]


def is_set_of_ways(net, begins, ends, ways):
    """Whether ways are a set of ways for a question, in the words of [25]."""
    measure, plain = net.measure, plain_by_hand(net, Ways(net.shape), begins, ends)
    worths = [worth_by_hand(net, way, begins.get(way[0])) for way in ways]
    fit = all(net.shape.is_way(way) and len(set(way)) == len(way) and way[0] in begins and way[-1] in ends for way in ways)
    lone = [folded(measure, worths[:at] + worths[at + 1:]) for at in range(len(ways))]
    return fit and folded(measure, worths) == plain and plain not in lone

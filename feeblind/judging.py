"""The judge of plans, and the cases in which refused plans and measures tell something else than the plain meaning."""

from feeblind.measures import Price
from feeblind.nets import Net
from feeblind.plans import check_roads, low_pairs, plan_of
from feeblind.shapes import Shape, way_by
from feeblind.verdicts import PlanRefused, PlanTaken


def low_way(shape, plan, source, target):
    """A simple low way for a low pair."""
    inner = [road for road in plan.order() if plan.is_lower(road, source) and plan.is_lower(road, target)]
    return way_by(shape, source, target, {road: True for road in inner})


def judge_plan(shape, plan):
    """The verdict on a plan for a shape: the first low pair that it lacks, or how many it has."""
    check_roads(shape, plan)
    order = plan.order()
    needed = low_pairs(shape, order)
    lacking = [(plan.rank(source), plan.rank(target)) for source, target in needed if (source, target) not in plan]
    if not lacking:
        return PlanTaken(len(needed), len(plan) - len(needed))
    source, target = [order[rank] for rank in min(lacking)]
    return PlanRefused(source, target, low_way(shape, plan, source, target))


def net_of_way(shape, way):
    """The net of prices in which only the roads of a way, and the turns between them, cost 0."""
    entries = {road: 0 for road in way}
    arcs = {turn: 0 for turn in shape.turns() if turn[0] in entries and turn[1] in entries}
    return Net(shape, Price("cost"), entries, arcs)


class Case:
    """A net, a plan, and a question, or two roads from one of which to the other one is asked."""

    def __init__(self, net, plan, begins, ends, source, target):
        self.net = net
        self.plan = plan
        self.source = source
        self.target = target
        self._begins = dict(begins)
        self._ends = list(ends)

    def begins(self):
        """The dict of the begins."""
        return dict(self._begins)

    def ends(self):
        """The list of the ends."""
        return list(self._ends)


# For each sentence the roads, the lowest first, the arcs, the begins, the ends, and from where to where is asked.
CASES = {
    "right_unit": (("r",), (), (("r", "a"),), ("r",), None, None),
    "left_unit": (("r", "s"), (("r", "s", "a"),), (), (), "r", "s"),
    "order": (("y", "x"), (), (("x", "a"), ("y", "b")), ("x", "y"), None, None),
    "grouping": (("y", "z", "x"), (), (("x", "a"), ("y", "b"), ("z", "c")), ("x", "y", "z"), None, None),
    "joining": (("y", "x", "z"), (("x", "y", "b"), ("y", "z", "c")), (("x", "a"),), ("z",), None, None),
    "ring": (("x", "y"), (("x", "y", "stay"), ("y", "x", "a")), (), (), "x", "x"),
    "left_sharing": (("y", "z", "x"), (("x", "y", "b"), ("x", "z", "c")), (("x", "a"),), ("y", "z"), None, None),
    "right_sharing": (
        ("x", "y", "w", "z"),
        (("x", "z", "stay"), ("y", "z", "stay"), ("z", "w", "c")),
        (("x", "a"), ("y", "b")),
        ("w",),
        None,
        None,
    ),
}


def counter_case(measure, refused):
    """The counter-case of a Told measure that is refused, and of its verdict."""
    values = {"a": refused.one, "b": refused.two, "c": refused.three, "stay": measure.stay}
    order, arcs, begins, ends, source, target = CASES[refused.sentence]
    shape = Shape(order, [(one, other) for one, other, _ in arcs])
    net = Net(shape, measure, {}, {(one, other): values[letter] for one, other, letter in arcs})
    begun = {road: values[letter] for road, letter in begins}
    return Case(net, plan_of(shape, order), begun, ends, source, target)

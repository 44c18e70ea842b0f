"""Bounds: what is at least still to be paid from each road, their judge, and the search that they lead."""

from heapq import heappop, heappush

from feeblind.errors import BoundsNotTaken
from feeblind.nets import not_none
from feeblind.plain import spread, spread_back, steps_by
from feeblind.verdicts import BoundsRefused, BoundsTaken


def judge_bounds(net, ends, bounds):
    """The verdict on bounds: the first end that is not 0, or the first turn that costs less than they fall by."""
    for end in sorted(set(ends)):
        if bounds.get(end, 0) != 0:
            return BoundsRefused(end, None)
    measure = net.measure
    for source, target in net.shape.turns():
        beyond = measure.then(net.arc(source, target), bounds.get(target, 0))
        # Of prices the no worse one is the one that is at most the other, with None above all.
        if not measure.no_worse(bounds.get(source, 0), beyond):
            return BoundsRefused(source, target)
    return BoundsTaken()


def mend(net, ends, bounds):
    """The greatest bounds that are taken and at no road above the old ones, ascending."""
    roads = net.shape.roads()
    old = {road: bounds.get(road, 0) for road in roads}
    for end in ends:
        old[end] = 0
    least = spread_back(net, old)
    return {road: least.get(road, None) for road in roads}


def greater(one, other):
    """The greater one of two bounds, with None above all numbers."""
    return None if one is None or other is None else max(one, other)


def greatest_bounds(*tables):
    """For each road of one of the dicts, ascending, the greatest bound; a road without a row has 0."""
    found = {}
    rows = [road for table in tables for road in table]
    for road in sorted(set(rows)):
        bound = 0
        for table in tables:
            bound = greater(bound, table.get(road, 0))
        found[road] = bound
    return found


def gap(whole, part):
    """How much of a price is left behind a part of it, at least 0, and None if only the part can be paid."""
    if part is None:
        return 0
    return None if whole is None else max(0, whole - part)


def bounds_by(net, landmark, goal):
    """The bounds that one landmark gives for a goal."""
    away, home = spread(net, {landmark: 0}), spread_back(net, {landmark: 0})
    found = {}
    for road in net.shape.roads():
        ahead = gap(away.get(goal, None), away.get(road, None))
        behind = gap(home.get(road, None), home.get(goal, None))
        found[road] = greater(ahead, behind)
    return found


def landmark_bounds(net, landmarks, goal):
    """The bounds that landmarks give for a goal, ascending; all 0 without landmarks."""
    tables = [{road: 0 for road in net.shape.roads()}]
    tables.extend([bounds_by(net, landmark, goal) for landmark in landmarks])
    return greatest_bounds(*tables)


def put_in(queue, bounds, road, price):
    """Puts a road that was reached at a price into a queue, by its reach; surely useless roads are left out."""
    bound = bounds.get(road, 0)
    if bound is not None:
        heappush(queue, (price + bound, road))


def led(net, begins, ends, bounds):
    """The price of a question, and the pairs of the roads that were settled on the way to it and their prices."""
    verdict = judge_bounds(net, ends, bounds)
    if not verdict.taken:
        raise BoundsNotTaken(verdict)
    steps = steps_by(net.arcs())
    prices = not_none(begins)
    queue = []
    for road in prices:
        put_in(queue, bounds, road, prices[road])
    settled = {}
    while queue:
        _, road = heappop(queue)
        # A road comes again if it was reached at a lesser price later; the least one was taken out first.
        if road not in settled:
            settled[road] = prices[road]
            if road in ends:
                return (prices[road], list(settled.items()))
            for target, arc in steps.get(road, []):
                price = prices[road] + arc
                if target not in prices or price < prices[target]:
                    prices[target] = price
                    put_in(queue, bounds, target, price)
    return (None, list(settled.items()))

"""Closings: least lots of roads without which a price is another one, and papers that a simple judge checks."""

from feeblind.hanging import price_without
from feeblind.nets import not_none
from feeblind.papers import answers, copied_whole
from feeblind.plain import plain_answer, spread, spread_back, worth_from
from feeblind.verdicts import ClosingRefused, ClosingTaken


class ClosingPaper:
    """A cut, and as many ways, each of which needs a closing of its own."""

    def __init__(self, cut, ways):
        self._cut = [copied_whole(road) for road in cut]
        self._ways = [copied_whole(way) for way in ways]

    def cut(self):
        """The list of what the cut has."""
        return [copied_whole(road) for road in self._cut]

    def ways(self):
        """The list of the ways."""
        return [copied_whole(way) for way in self._ways]


def cuts(net, begins, ends, roads):
    """Whether closing a list of roads makes the price another one; False if the price is None."""
    price = plain_answer(net, begins, ends)
    return price is not None and price_without(net, begins, ends, roads) != price


def are_best(net, begins, ends, ways, price):
    """Whether each item of a list is a way that answers the question at its price; none is if the price is None."""
    if price is None:
        return len(ways) == 0
    begun = not_none(begins)
    for way in ways:
        if not answers(net.shape, way, begun, ends) or worth_from(net, begun[way[0]], way) != price:
            return False
    return True


def share_a_road(ways):
    """Whether two of the ways have a road in common; a way may have one twice."""
    roads = [road for way in ways for road in sorted(set(way))]
    return len(set(roads)) < len(roads)


def judge_closing(net, begins, ends, paper):
    """The verdict on a closing paper."""
    cut, ways = paper.cut(), paper.ways()
    price = plain_answer(net, begins, ends)
    if len(cut) != len(ways):
        return ClosingRefused("many")
    if not are_best(net, begins, ends, ways, price):
        return ClosingRefused("way")
    if share_a_road(ways):
        return ClosingRefused("shared")
    if price is None:
        return ClosingTaken()
    if not all([road in net.shape for road in cut]) or not cuts(net, begins, ends, cut):
        return ClosingRefused("cut")
    return ClosingTaken()


# Each road is entered on one side and left on the other one. No road has the empty name.
INTO = 0
OUT_OF = 1
START = ("", 1)
GOAL = ("", 0)


def best_steps(net, begins, ends, price):
    """For each side of a road the sides behind it on best ways; the steps between the two sides are those to be cut."""
    measure, arcs, begun = net.measure, net.arcs(), not_none(begins)
    ups, backs = spread(net, begun), spread_back(net, {end: 0 for end in ends})
    first = [road for road in begun if measure.then(begun[road], backs.get(road, None)) == price]
    steps = {START: [(road, INTO) for road in first], GOAL: []}
    for road in net.shape.roads():
        steps[(road, INTO)] = [(road, OUT_OF)]
        steps[(road, OUT_OF)] = [GOAL] if road in ends and ups.get(road, None) == price else []
    for source, target in arcs:
        through = measure.then(ups.get(source, None), arcs[(source, target)])
        if measure.then(through, backs.get(target, None)) == price:
            steps[(source, OUT_OF)].append((target, INTO))
    return steps


def reached_sides(steps, taken):
    """For each side that is reached from the start, also by turning taken ways about, from which one it is."""
    back = {step: side for side, step in taken}
    came = {START: None}
    waiting = [START]
    while waiting:
        side = waiting.pop()
        # A road that is on a taken way is not crossed again.
        ahead = [step for step in steps[side] if step[0] != side[0] or (side, step) not in taken]
        if side in back and side != GOAL:
            ahead.append(back[side])
        for step in ahead:
            if step not in came:
                came[step] = side
                waiting.append(step)
    return came


def with_one_more(taken, came):
    """The steps of taken ways that are left when a way to the goal is gone, too."""
    kept = {step: True for step in taken}
    side = GOAL
    while came[side] is not None:
        if (side, came[side]) in kept:
            del kept[(side, came[side])]
        else:
            kept[(came[side], side)] = True
        side = came[side]
    return kept


def ways_taken(taken):
    """The ascending list of the ways that taken steps are made of."""
    onward = {side: step for side, step in taken}
    found = []
    for side, first in taken:
        if side == START:
            way = []
            step = first
            while step != GOAL:
                if step[1] == INTO:
                    way.append(step[0])
                step = onward[step]
            found.append(tuple(way))
    return sorted(found)


def least_closings(net, begins, ends):
    """A closing paper that is taken."""
    price = plain_answer(net, begins, ends)
    if price is None:
        return ClosingPaper([], [])
    steps = best_steps(net, begins, ends, price)
    taken = {}
    came = reached_sides(steps, taken)
    while GOAL in came:
        taken = with_one_more(taken, came)
        came = reached_sides(steps, taken)
    cut = [road for road in net.shape.roads() if (road, INTO) in came and (road, OUT_OF) not in came]
    return ClosingPaper(cut, ways_taken(taken))

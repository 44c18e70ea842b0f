"""The plain meaning of questions: the best of all simple ways; and rounds."""

from feeblind.nets import not_none
from feeblind.sentences import judge_measure
from feeblind.shapes import simple_ways


def joined_arcs(net, value, way):
    """A value or None, joined from the left with the arcs of a way."""
    for source, target in zip(way, way[1:]):
        value = net.measure.then(value, net.arc(source, target))
    return value


def worth(net, way):
    """The worth of a way, or None."""
    if len(way) == 1:
        return net.measure.stay
    return joined_arcs(net, net.arc(way[0], way[1]), way[1:])


def worth_from(net, begin, way):
    """The worth of a way from a begin, which is a value or None."""
    return joined_arcs(net, begin, way)


def best_of(measure, values):
    """The best of a list of values or None, folded from the left; None without any."""
    found = None
    for value in values:
        found = measure.best(found, value)
    return found


def steps_by(arcs):
    """For each road from which an arc of a dict leads the list of the pairs of a target and the arc."""
    steps = {}
    for source, target in arcs:
        steps.setdefault(source, []).append((target, arcs[(source, target)]))
    return steps


def spread_by(measure, steps, marks):
    """For a taken measure the best of all ways from the marks to each road, by steps; without None, ascending."""
    found = not_none(marks)
    present = list(found)
    while present:
        changed = {}
        for source in present:
            for target, arc in steps.get(source, []):
                old = found.get(target, None)
                new = measure.best(old, measure.then(found[source], arc))
                if new != old:
                    found[target] = new
                    changed[target] = True
        # One goes on from these roads alone, since nothing else can bring anything better.
        present = sorted(changed)
    return not_none(found)


def spread(net, marks):
    """The last round of a table, for a taken measure: the best of all ways from the marks to each road."""
    return spread_by(net.measure, steps_by(net.arcs()), marks)


def spread_back(net, marks):
    """For a net of prices the least price from each road to the marks, which are paid there."""
    arcs = net.arcs()
    # Sums of prices do not ask for the order, so the turns are gone the other way round.
    turned = {(target, source): arcs[(source, target)] for source, target in arcs}
    return spread_by(net.measure, steps_by(turned), marks)


def plain_between(net, source, target):
    """The best of the worths of all simple ways from source to target, or None."""
    if judge_measure(net.measure).taken:
        # Rounds lead to the same, and do not go through all simple ways.
        return spread(net, {source: net.measure.stay}).get(target, None)
    return best_of(net.measure, [worth(net, way) for way in simple_ways(net.shape, source, target)])


def plain_answer(net, begins, ends):
    """The best of the worths from their begins of all simple ways that answer a question, or None."""
    if judge_measure(net.measure).taken:
        marks = spread(net, not_none(begins))
        return best_of(net.measure, [marks.get(end, None) for end in sorted(set(ends))])
    return best_of(net.measure, [worth_from(net, begins[way[0]], way) for way in answering(net, begins, ends)])


def answering(net, begins, ends):
    """The ascending list of all simple ways that answer a question."""
    found = []
    for begin in not_none(begins):
        for end in sorted(set(ends)):
            found.extend(list(simple_ways(net.shape, begin, end)))
    return sorted(found)


def rounds(net, begins):
    """The tables of round 0 to the round whose number is the number of roads less one."""
    marks = not_none(begins)
    yield dict(marks)
    for _ in range(len(net.shape) - 1):
        marks = next_round(net, marks)
        yield dict(marks)


def next_round(net, marks):
    """The round behind a table: with the old table throughout, each road takes what the turns into it bring."""
    measure = net.measure
    behind = {}
    for road in net.shape.roads():
        mark = marks.get(road, None)
        for source in net.shape.leading(road):
            mark = measure.best(mark, measure.then(marks.get(source, None), net.arc(source, road)))
        behind[road] = mark
    return not_none(behind)

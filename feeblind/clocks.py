"""Clocks: the times of a way, and a way for a time."""

from heapq import heappop, heappush

from feeblind.hours import read_hours
from feeblind.nets import not_none
from feeblind.plain import steps_by
from feeblind.shapes import traced


def clock(net, begins, way, t):
    """The tuple of the times at which one is through each road of a way, if one begins at t."""
    times = [read_hours(begins[way[0]], t)]
    for source, target in zip(way, way[1:]):
        times.append(read_hours(net.arc(source, target), times[-1]))
    return tuple(times)


def way_at(net, begins, ends, t):
    """A simple way by which one is through earliest if one begins at t, or None."""
    begun, steps = not_none(begins), steps_by(net.arcs())
    times = {road: read_hours(begun[road], t) for road in begun}
    came = {road: None for road in begun}
    queue = []
    for road in times:
        heappush(queue, (times[road], road))
    while queue:
        time, road = heappop(queue)
        if road in ends:
            return traced(came, road)
        # Who begins later is never through earlier, so only the earliest time at a road counts.
        if time == times[road]:
            for target, arc in steps.get(road, []):
                through = read_hours(arc, time)
                if target not in times or through < times[target]:
                    times[target] = through
                    came[target] = road
                    heappush(queue, (through, target))
    return None

"""What hangs on a road: the price through it, its slack, and the price without it."""

from feeblind.nets import not_none
from feeblind.plain import plain_answer, spread, spread_back


def through(net, begins, ends, road):
    """The price of the best of all ways that answer a question and go by a road, or None."""
    ahead = spread(net, begins).get(road, None)
    behind = spread_back(net, {end: 0 for end in ends}).get(road, None)
    return net.measure.then(ahead, behind)


def slack(net, begins, ends, road):
    """How much more than the price of the question it costs to go by a road, or None."""
    price = through(net, begins, ends, road)
    # Where one can go by the road, one can go at all, so the question has a price, too.
    return None if price is None else price - plain_answer(net, begins, ends)


def price_without(net, begins, ends, roads):
    """The price of a question with a list of roads closed."""
    begun = not_none(begins)
    return plain_answer(net.closed(roads), {road: begun[road] for road in begun if road not in roads}, ends)


def needed_roads(net, begins, ends):
    """The ascending list of the roads without which the price is another one."""
    price = plain_answer(net, begins, ends)
    if price is None:
        return []
    return [road for road in net.shape.roads() if price_without(net, begins, ends, [road]) != price]


def detours(net, begins, ends, way):
    """The dict from the roads of a way, ascending, to the price with the road closed."""
    return {road: price_without(net, begins, ends, [road]) for road in sorted(set(way))}

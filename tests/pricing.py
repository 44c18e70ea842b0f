"""Nets of prices for tests, and least sums by listing all simple ways ([33] to [37])."""

from itertools import combinations

from feeblind.measures import Price
from feeblind.nets import Net
from tests.charting import Ways, plain_between_by_hand, plain_by_hand, some_question, some_shape

PRICE = Price("cost")
SMALL = [0, 0, 1, 1, 2, 3, 5]


def price_net(random, most=6, least=1):
    """A net of small prices with many turns and many ties; some arcs are None."""
    shape = some_shape(random, most, least)
    return Net(shape, PRICE, {}, {turn: random.choice(SMALL + [None]) for turn in shape.turns()})


def price_case(random, most=6):
    """A net of prices with all its ways, and a question, often one with an answer."""
    net = price_net(random, most)
    begins, ends = some_question(random, net, SMALL)
    for road in net.shape.roads():
        if random.random() < 0.3:
            begins[road] = random.choice(SMALL)
        if random.random() < 0.3:
            ends.append(road)
    return net, Ways(net.shape), begins, ends


def least(values):
    """The least one of some prices or None, with None above all."""
    return min([value for value in values if value is not None], default=None)


def added(one, other):
    """The sum of two prices or None."""
    return None if one is None or other is None else one + other


def at_most(one, other):
    """Whether a price or None is at most another one."""
    return other is None or one is not None and one <= other


def price_to(net, ways, begins, road):
    """X of a road."""
    return least(added(begins[begin], plain_between_by_hand(net, ways, begin, road)) for begin in begins)


def price_from(net, ways, ends, road):
    """Y of a road."""
    return least(plain_between_by_hand(net, ways, road, end) for end in ends)


def price_closed(net, ways, begins, ends, roads):
    """The price with roads closed, in a net without the arcs into them."""
    arcs = {turn: value for turn, value in net.arcs().items() if turn[1] not in roads}
    begun = {begin: begins[begin] for begin in begins if begin not in roads}
    other = Net(net.shape, PRICE, {}, arcs)
    return plain_by_hand(other, ways, begun, ends)


def lots_of(items):
    """All lots of some items, the ones with the fewest items first."""
    items = list(items)
    return [lot for many in range(len(items) + 1) for lot in combinations(items, many)]

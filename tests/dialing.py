"""Nets of a dial for tests, in which each value has one line, and readings at settings, whole or not."""

from fractions import Fraction

from feeblind.dials import Dial
from feeblind.nets import Net
from tests.charting import some_question, some_shape
from tests.oracles import read

LINES = [((0, 0),), ((0, 2),), ((2, 0),), ((1, 1),), ((5, 0),), ((0, 5),), ((3, 1),), ((1, 3),)]


def dial_case(random, top, most=5):
    """A net of a dial in which each value has one line, and a question with such begins."""
    shape = some_shape(random, most, 1)
    choice = LINES * 3 + [None]
    entries = {road: random.choice(choice) for road in shape.roads()}
    net = Net(shape, Dial("cost", "toll", top), entries, {turn: random.choice(choice) for turn in shape.turns()})
    begins, ends = some_question(random, net, LINES)
    for road in shape.roads():
        if random.random() < 0.3:
            begins[road] = random.choice(LINES)
        if random.random() < 0.3:
            ends.append(road)
    return net, begins, ends


def some_settings(top):
    """Settings at both ends, at whole numbers and between them, not all of them in lowest terms."""
    return [(0, 1), (0, 7), (top, 1), (3 * top, 3), (1, 1), (4, 4), (1, 2), (2, 4), (top, 2), (7 * top, 9), (1, 1000003)]


def read_at(value, setting):
    """A value read at a setting, as a fraction; None for None."""
    return None if value is None else read(value, Fraction(*setting))


def way_read(net, begins, way, setting):
    """The price of a way from its begin at a setting, as a fraction, or None."""
    values = [begins[way[0]], *[net.arc(*turn) for turn in zip(way, way[1:])]]
    return None if None in values else sum(read_at(value, setting) for value in values)


def least_read(net, ways, begins, ends, setting):
    """The least price of all ways that answer a question at a setting, as a fraction, or None."""
    prices = [way_read(net, begins, way, setting) for way in ways.answering(begins, ends)]
    return min([price for price in prices if price is not None], default=None)

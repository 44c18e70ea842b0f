"""Settings of a dial: fractions at which lines are read."""

from math import gcd

from feeblind.errors import BadSetting
from feeblind.measures import Price
from feeblind.names import is_number
from feeblind.nets import Net


def is_setting(value, top):
    """Whether any value is a fraction of numbers from 0 to top."""
    if not isinstance(value, tuple) or len(value) != 2:
        return False
    return is_number(value[1], 1) and is_number(value[0], 0, top * value[1])


def lowest(setting):
    """A fraction in lowest terms."""
    shared = gcd(setting[0], setting[1])
    return (setting[0] // shared, setting[1] // shared)


def read_dial(measure, value, setting):
    """The price of a value at a setting, times the denominator of the setting."""
    if not is_setting(setting, measure.top):
        raise BadSetting(setting)
    over, under = setting
    return min([a * under + b * over for a, b in value])


def joints(measure, value):
    """The ascending list of the settings, in lowest terms, at which two neighbouring lines are equal."""
    return [lowest((next_a - a, b - next_b)) for (a, b), (next_a, next_b) in zip(value, value[1:])]


def stretches(measure, value):
    """The list of the tuples of a low and a high setting and the line that is least between them."""
    marks = [(0, 1)] + joints(measure, value) + [(measure.top, 1)]
    return [(low, high, line) for low, high, line in zip(marks, marks[1:], value)]


def all_read(measure, values, setting):
    """A dict of values or None, each of which is read at a setting."""
    found = {}
    for key, value in values.items():
        found[key] = None if value is None else read_dial(measure, value, setting)
    return found


def net_at(net, setting):
    """The net of prices in which each entry and arc of a net of a dial is read at a setting."""
    measure = net.measure
    if not is_setting(setting, measure.top):
        raise BadSetting(setting)
    entries, arcs = all_read(measure, net.entries(), setting), all_read(measure, net.arcs(), setting)
    return Net(net.shape, Price(measure.wish), entries, arcs)


def begins_read(net, begins, setting):
    """The dict of begins, each read at a setting; None where it was None."""
    if not is_setting(setting, net.measure.top):
        raise BadSetting(setting)
    return all_read(net.measure, begins, setting)

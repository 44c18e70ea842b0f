"""Nets: a shape whose roads and turns have values of a measure."""

from feeblind.dials import Dial
from feeblind.errors import BadValue, NoTurn, UnknownName
from feeblind.hours import Hours, hours_of
from feeblind.joint import First, Several, items_or_none
from feeblind.measures import Price, Width
from feeblind.names import WHEEL
from feeblind.rows import Open, Trade
from feeblind.shapes import shape_of
from feeblind.told import Told


def check_values(measure, values):
    """Raises BadValue with the first one of a dict, by its keys, that is neither None nor a value."""
    for key in sorted(values):
        if values[key] is not None and not measure.is_value(values[key]):
            raise BadValue(values[key])


def check_entries(shape, measure, entries):
    """Raises UnknownName with the least key that is no road, then BadValue with the first wrong value."""
    for road in sorted(entries):
        if road not in shape:
            raise UnknownName(road)
    check_values(measure, entries)


def check_arcs(shape, measure, arcs):
    """Raises NoTurn with the least key that is no turn, then BadValue with the first wrong value."""
    turns = {turn: True for turn in shape.turns()}
    for source, target in sorted(arcs):
        if (source, target) not in turns:
            raise NoTurn(source, target)
    check_values(measure, arcs)


def not_none(values):
    """The dict of those values that are not None, ascending by their keys."""
    return {key: values[key] for key in sorted(values) if values[key] is not None}


class Net:
    """A shape with an entry for each road and an arc for each turn, which are values or None."""

    def __init__(self, shape, measure, entries, arcs):
        check_entries(shape, measure, entries)
        check_arcs(shape, measure, arcs)
        self.shape = shape
        self.measure = measure
        self._entries = not_none(entries)
        self._arcs = not_none(arcs)

    def entry(self, road):
        """The entry of a road, or None."""
        return self._entries.get(road, None)

    def arc(self, source, target):
        """The arc of a turn, or None."""
        return self._arcs.get((source, target), None)

    def entries(self):
        """The dict of the entries that are not None, ascending."""
        return dict(self._entries)

    def arcs(self):
        """The dict of the arcs that are not None, ascending."""
        return {turn: self._arcs[turn] for turn in self._arcs}

    def with_arcs(self, arcs):
        """The net with some arcs in the place of the old ones."""
        check_arcs(self.shape, self.measure, arcs)
        present = {turn: self._arcs[turn] for turn in self._arcs}
        for turn in arcs:
            present[turn] = arcs[turn]
        # What the net holds was looked at before, so it is not looked at again.
        net = Net(self.shape, self.measure, {}, {})
        net._entries = self._entries
        net._arcs = not_none(present)
        return net

    def closed(self, roads):
        """The net with a list of roads closed."""
        net = Net(self.shape, self.measure, {}, {})
        net._entries = {road: self._entries[road] for road in self._entries if road not in roads}
        net._arcs = {turn: self._arcs[turn] for turn in self._arcs if turn[1] not in roads}
        return net

    def __eq__(self, other):
        return (isinstance(other, Net) and self.shape == other.shape and self.measure == other.measure
                and self._entries == other._entries and self._arcs == other._arcs)

    def __repr__(self):
        return f"Net({self.measure!r}, {len(self.shape)} roads)"


def fees_value(fees, lot, measure):
    """The value of the prices of a road or a rule, with the lot of it, for the measures of prices alone; or None."""
    if isinstance(measure, Price):
        return fees.price(measure.wish)
    if isinstance(measure, Trade):
        return (tuple([fees.price(wish) for wish in measure.wishes()]),)
    if isinstance(measure, Open):
        return ((fees.price(measure.wish), lot),)
    if isinstance(measure, Dial):
        return ((fees.price(measure.wish), fees.price(measure.slope)),)
    return None


def road_value(road, measure):
    """The value of a road in a measure, or None; wheels mean nothing."""
    if isinstance(measure, Width):
        return road.width
    if isinstance(measure, Told):
        return road.mark if measure.is_value(road.mark) else None
    if isinstance(measure, Hours):
        return hours_of(measure.day, road.windows(), road.ticks)
    if isinstance(measure, Several):
        return items_or_none([road_value(road, inner) for inner in measure.measures()])
    if isinstance(measure, First):
        inner = road_value(road, measure.inner)
        return None if inner is None else (road.price(measure.wish), inner)
    return fees_value(road, (road.name,) if road.doubtful else (), measure)


def turn_value(rule, measure):
    """The value of a turn with a rule, for the measures in which it has one of its own."""
    if isinstance(measure, Hours):
        return hours_of(measure.day, None, rule.ticks)
    return fees_value(rule, (), measure)


def arc_value(rule, road, measure):
    """The arc value for a rule, or None without one, and the road that is entered; wheels mean nothing."""
    if rule is None or isinstance(measure, (Width, Told)):
        return road_value(road, measure)
    if isinstance(measure, Several):
        return items_or_none([arc_value(rule, road, inner) for inner in measure.measures()])
    if isinstance(measure, First):
        inner = arc_value(rule, road, measure.inner)
        return None if inner is None else (rule.price(measure.wish) + road.price(measure.wish), inner)
    return measure.then(turn_value(rule, measure), road_value(road, measure))


def lets_turn(rule, road, wheel):
    """Whether a wheel may turn into a road, with a rule or None."""
    return road.lets(wheel) and (rule is None or rule.lets(wheel))


def net_of(chart, measure, *, wheel=WHEEL):
    """The net of a chart, for a wheel and a measure."""
    entries = {road.name: road_value(road, measure) for road in chart.roads() if road.lets(wheel)}
    arcs = {}
    for source, target in chart.turns():
        rule, road = chart.rule(source, target), chart.road_named(target)
        if lets_turn(rule, road, wheel):
            arcs[(source, target)] = arc_value(rule, road, measure)
    return Net(shape_of(chart), measure, entries, arcs)


def begins_at(chart, net, place):
    """The begins for a place: the roads whose tail it is, with their entries that are not None, ascending."""
    entries = {road: net.entry(road) for road in chart.leaving(place)}
    return not_none(entries)


def ends_at(chart, place):
    """The ascending list of the ends for a place: the roads whose head it is."""
    return chart.arriving(place)

"""Shapes: roads and turns without any fee, and the ways in them."""

from feeblind.errors import BadName, NoTurn, TakenName
from feeblind.names import is_name


def check_different(names):
    """Raises BadName with the first item that is no name, then TakenName with the first one that stands ahead."""
    for name in names:
        if not is_name(name):
            raise BadName(name)
    ahead = {}
    for name in names:
        if name in ahead:
            raise TakenName(name)
        ahead[name] = True


def is_pair(value, known):
    """Whether any value is a pair of two different keys of a dict of roads."""
    if not isinstance(value, tuple) or len(value) != 2:
        return False
    source, target = value
    if not isinstance(source, str) or not isinstance(target, str):
        return False
    return source in known and target in known and source != target


def sides(value):
    """The source and the target that an error about any value has."""
    return value if isinstance(value, tuple) and len(value) == 2 else (value, None)


class Shape:
    """Different roads, and turns between them."""

    def __init__(self, roads, turns):
        check_different(roads)
        self._following = {road: [] for road in sorted(roads)}
        for turn in turns:
            if not is_pair(turn, self._following):
                source, target = sides(turn)
                raise NoTurn(source, target)
        self._turns = {turn: True for turn in sorted(turns)}
        self._leading = {road: [] for road in self._following}
        for source, target in self._turns:
            self._following[source].append(target)
            self._leading[target].append(source)

    def roads(self):
        """The ascending list of the roads."""
        return list(self._following)

    def turns(self):
        """The ascending list of the turns."""
        return list(self._turns)

    def following(self, road):
        """The ascending list of the roads into which one turns from a road."""
        return list(self._following[road])

    def leading(self, road):
        """The ascending list of the roads from which one turns into a road."""
        return list(self._leading[road])

    def without(self, road):
        """The shape without a road and its turns."""
        roads = [name for name in self._following if name != road]
        return Shape(roads, [turn for turn in self._turns if road not in turn])

    def is_way(self, value):
        """Whether any value is a way: one road or more, each two neighbours a turn."""
        if not isinstance(value, tuple) or not value:
            return False
        if not all([isinstance(road, str) and road in self._following for road in value]):
            return False
        return all([turn in self._turns for turn in zip(value, value[1:])])

    def __contains__(self, name):
        return isinstance(name, str) and name in self._following

    def __len__(self):
        return len(self._following)

    def __bool__(self):
        return True

    def __eq__(self, other):
        return isinstance(other, Shape) and self._following == other._following

    def __repr__(self):
        return f"Shape({len(self._following)} roads, {len(self._turns)} turns)"


def shape_of(chart):
    """The shape of a chart."""
    return Shape(chart.names(), chart.turns())


def cut_rings(way):
    """The simple way that is left of a way: each road goes on as at its last coming."""
    last = {road: at for at, road in enumerate(way)}
    kept = []
    at = 0
    while at < len(way):
        kept.append(way[at])
        at = last[way[at]] + 1
    return tuple(kept)


def traced(came, road):
    """The way to a road, from a dict that tells for each road from which one it was reached, or None."""
    way = []
    while road is not None:
        way.append(road)
        road = came[road]
    return tuple(way[::-1])


def stepped(shape, present, came, allowed):
    """The roads that are newly reached from some roads by one turn into allowed ones; came keeps from which road."""
    reached = []
    for road in present:
        for step in shape.following(road):
            if step not in came and step in allowed:
                came[step] = road
                reached.append(step)
    return reached


def way_by(shape, source, target, inner):
    """A shortest way from source to target that goes by the roads of a dict, or None; so it is simple."""
    allowed = {road: True for road in list(inner) + [target]}
    came = {source: None}
    present = [source]
    while present and target not in came:
        present = stepped(shape, present, came, allowed)
    return traced(came, target) if target in came else None


def roads_leading(shape, target):
    """A dict with the roads from which there is a way to a road."""
    found = {target: True}
    waiting = [target]
    while waiting:
        present = waiting.pop()
        for road in shape.leading(present):
            if road not in found:
                found[road] = True
                waiting.append(road)
    return found


def simple_ways(shape, source, target):
    """All simple ways from source to target, in ascending order."""
    hopeful = roads_leading(shape, target)
    # No simple way goes on behind the target, so no way is ahead of another one that begins with it.
    begun = [(source,)]
    while begun:
        way = begun.pop()
        if way[-1] == target:
            yield way
        else:
            steps = [road for road in shape.following(way[-1]) if road in hopeful and road not in way]
            begun.extend([way + (road,) for road in steps[::-1]])

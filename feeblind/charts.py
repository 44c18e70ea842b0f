"""Charts: roads, the turns between them, and the rules of turns."""

from feeblind.blocks import ChartReader
from feeblind.errors import DoubleRule, NoTurn, TakenName, TooMany, UnknownName
from feeblind.texts import read_lines


def check_names(roads):
    """Raises TakenName with the first road whose name stands ahead."""
    ahead = {}
    for road in roads:
        if road.name in ahead:
            raise TakenName(road.name)
        ahead[road.name] = True


def turns_between(roads):
    """The ascending list of all pairs of different roads of which the second begins where the first ends."""
    leaving = {}
    for road in roads:
        leaving.setdefault(road.tail, []).append(road.name)
    pairs = [(road.name, name) for road in roads for name in leaving.get(road.head, [])]
    return sorted([pair for pair in pairs if pair[0] != pair[1]])


def check_rules(rules, turns):
    """Raises NoTurn with the first rule of no turn, then DoubleRule with the first one of a turn that has one."""
    for rule in rules:
        if (rule.source, rule.target) not in turns:
            raise NoTurn(rule.source, rule.target)
    ahead = {}
    for rule in rules:
        if (rule.source, rule.target) in ahead:
            raise DoubleRule(rule.source, rule.target)
        ahead[(rule.source, rule.target)] = True


def price_lines(prices):
    """The lines of prices."""
    return [f"price {wish} {price}" for wish, price in prices.items()]


def window_lines(windows):
    """The lines of windows, which may be None."""
    if windows is None:
        return []
    return [f"window {first} {behind}" for first, behind in windows] if windows else ["never"]


def wheel_lines(wheels):
    """The line of wheels, which may be None."""
    return [] if wheels is None else [" ".join(["wheels"] + wheels)]


def road_lines(road):
    """The lines of the block of a road."""
    lines = [f"road {road.name} {road.tail} {road.head}"] + price_lines(road.prices())
    if road.width != 1:
        lines.append(f"width {road.width}")
    if road.ticks != 1:
        lines.append(f"ticks {road.ticks}")
    if road.mark is not None:
        lines.append(f"mark {road.mark}")
    lines = lines + window_lines(road.windows()) + wheel_lines(road.wheels())
    if road.doubtful:
        lines.append("doubtful")
    return lines


def rule_lines(rule):
    """The lines of the block of a rule."""
    lines = [f"turn {rule.source} {rule.target}"] + price_lines(rule.prices())
    if rule.ticks != 0:
        lines.append(f"ticks {rule.ticks}")
    return lines + wheel_lines(rule.wheels())


class Chart:
    """Roads with different names, and at most one rule for each turn between them."""

    ROADS = 120
    TURNS = 600

    def __init__(self, roads=(), rules=()):
        check_names(roads)
        if len(roads) > Chart.ROADS:
            raise TooMany("roads", len(roads))
        turns = turns_between(roads)
        if len(turns) > Chart.TURNS:
            raise TooMany("turns", len(turns))
        self._turns = {turn: True for turn in turns}
        check_rules(rules, self._turns)
        named = {road.name: road for road in roads}
        self._named = {name: named[name] for name in sorted(named)}
        self._roads = list(self._named.values())
        kept = {(rule.source, rule.target): rule for rule in rules if not rule.empty}
        self._rules = {turn: kept[turn] for turn in sorted(kept)}

    def roads(self):
        """The list of the roads, ascending by names."""
        return list(self._roads)

    def names(self):
        """The ascending list of the names of the roads."""
        return list(self._named)

    def road_named(self, name):
        """The road with a name."""
        if not isinstance(name, str) or name not in self._named:
            raise UnknownName(name)
        return self._named[name]

    def places(self):
        """The ascending list of all tails and heads."""
        return sorted(set([road.tail for road in self._roads] + [road.head for road in self._roads]))

    def turns(self):
        """The ascending list of the turns."""
        return list(self._turns)

    def rule(self, source, target):
        """The rule of a turn, or None."""
        known = isinstance(source, str) and isinstance(target, str)
        if not known or (source, target) not in self._turns:
            raise NoTurn(source, target)
        return self._rules.get((source, target), None)

    def rules(self):
        """The list of the rules, ascending by source and target."""
        return list(self._rules.values())

    def leaving(self, place):
        """The ascending list of the names of the roads whose tail is the place."""
        return [road.name for road in self._roads if road.tail == place]

    def arriving(self, place):
        """The ascending list of the names of the roads whose head is the place."""
        return [road.name for road in self._roads if road.head == place]

    def text(self):
        """The text of the chart."""
        lines = [line for road in self._roads for line in road_lines(road)]
        lines = lines + [line for rule in self._rules.values() for line in rule_lines(rule)]
        return "".join([f"{line}\n" for line in lines + ["end"]])

    @staticmethod
    def read(text):
        """The chart with a text."""
        reader = ChartReader(Chart.ROADS, Chart.TURNS)
        read_lines(reader, text)
        return Chart(reader.roads_read(), reader.rules_read())

    def __contains__(self, name):
        return isinstance(name, str) and name in self._named

    def __iter__(self):
        return iter(self._roads)

    def __len__(self):
        return len(self._roads)

    def __bool__(self):
        return True

    def __eq__(self, other):
        return isinstance(other, Chart) and self._roads == other._roads and self._rules == other._rules

    def __repr__(self):
        return f"Chart({len(self._roads)} roads)"

"""Hubs: roads by way of which each road is left and reached, and the judge of hubs."""

from feeblind.errors import HubsNotTaken
from feeblind.nets import not_none
from feeblind.plain import spread
from feeblind.shapes import way_by
from feeblind.verdicts import HubsRefused, HubsTaken


def rows_kept(table):
    """The dict of the ascending lists that are not empty, ascending."""
    return {road: sorted(set(table[road])) for road in sorted(table) if table[road]}


def many_rows(table):
    """The number of rows of all lists of a dict."""
    return sum([len(rows) for rows in table.values()])


def rows_of(table, road):
    """The list of any value, the empty one without a row."""
    return list(table.get(road, [])) if isinstance(road, str) else []


def struck(table, road, hub):
    """The lists with a row of a road struck, if it is there."""
    return {name: [row for row in table[name] if name != road or row != hub] for name in table}


class Hubs:
    """For each road a list of hubs outward, and a list of hubs inward."""

    def __init__(self, outward, inward):
        self._outward = rows_kept(outward)
        self._inward = rows_kept(inward)

    def outward(self, road):
        """The ascending list of the hubs outward of a road."""
        return rows_of(self._outward, road)

    def inward(self, road):
        """The ascending list of the hubs inward of a road."""
        return rows_of(self._inward, road)

    def names(self):
        """The ascending list of all names that have a row."""
        return sorted(set(list(self._outward) + list(self._inward)))

    def shared(self, source, target):
        """The ascending list of the roads that are outward of source and inward of target."""
        inward = {road: True for road in self.inward(target)}
        return [road for road in self.outward(source) if road in inward]

    def without(self, road, hub, side):
        """The hubs with one row struck, on the side "outward" or "inward", if it is there."""
        if side == "outward":
            return Hubs(struck(self._outward, road, hub), self._inward)
        return Hubs(self._outward, struck(self._inward, road, hub))

    def __eq__(self, other):
        return isinstance(other, Hubs) and self._outward == other._outward and self._inward == other._inward

    def __repr__(self):
        return f"Hubs({many_rows(self._outward) + many_rows(self._inward)} rows)"


def way_without_hub(shape, hubs, source, target):
    """A simple way with no shared hub of its first and last road on it, or None."""
    shared = hubs.shared(source, target)
    if source in shared or target in shared:
        return None
    return way_by(shape, source, target, {road: True for road in shape.roads() if road not in shared})


def first_gap(shape, hubs, pairs):
    """HubsRefused with the first of some pairs that has a way without a shared hub, or None."""
    for source, target in pairs:
        way = way_without_hub(shape, hubs, source, target)
        if way is not None:
            return HubsRefused(source, target, way)
    return None


def judge_hubs(shape, hubs):
    """The verdict on hubs for a shape: the first pair with a way without a shared hub, or how many rows they have."""
    roads = shape.roads()
    refused = first_gap(shape, hubs, [(source, target) for source in roads for target in roads])
    if refused is not None:
        return refused
    rows = [row for road in roads for row in hubs.outward(road) + hubs.inward(road) if row in shape]
    return HubsTaken(len(rows))


def reached(plan, steps):
    """For each road itself and what is reached by the steps, each to a road with a higher rank than the one ahead."""
    found = {}
    for road in plan.order()[::-1]:
        rows = [row for step in steps[road] for row in found[step]]
        found[road] = sorted(set(rows + [road]))
    return found


def hubs_of(plan):
    """The hubs of a plan: what is reached by rising pairs, and from where one comes by falling pairs."""
    rising = {road: [] for road in plan.order()}
    falling = {road: [] for road in plan.order()}
    for source, target in plan.pairs():
        if plan.is_lower(source, target):
            rising[source].append(target)
        else:
            falling[target].append(source)
    return Hubs(reached(plan, rising), reached(plan, falling))


def pairs_that_share(shape, hubs, name, hub, side):
    """The pairs of roads that may lose a shared hub by striking a row of a name."""
    if name not in shape:
        return []
    if side == "outward":
        return [(name, road) for road in shape.roads() if hub in hubs.inward(road)]
    return [(road, name) for road in shape.roads() if hub in hubs.outward(road)]


def thinned_side(shape, hubs, name, side):
    """The hubs, without each row of a name on a side that can be struck, from the least one on."""
    thinned = hubs
    rows = hubs.outward(name) if side == "outward" else hubs.inward(name)
    for hub in rows:
        less = thinned.without(name, hub, side)
        if first_gap(shape, less, pairs_that_share(shape, thinned, name, hub, side)) is None:
            thinned = less
    return thinned


def thin(shape, hubs):
    """The hubs, without each row that can be struck, in the order of [29]."""
    verdict = judge_hubs(shape, hubs)
    if not verdict.taken:
        raise HubsNotTaken(verdict)
    thinned = hubs
    for name in hubs.names():
        for side in ("outward", "inward"):
            thinned = thinned_side(shape, thinned, name, side)
    return thinned


def tables_from(net, roads):
    """For each of some roads the dict of the best of all ways from it to each road."""
    return {road: spread(net, {road: net.measure.stay}) for road in roads}


def hubs_told(net, hubs, tables, source, target):
    """What hubs tell from source to target, with the tables from source and from the hubs."""
    told = None
    for hub in hubs.shared(source, target):
        if hub in net.shape:
            through = net.measure.then(tables[source].get(hub, None), tables[hub].get(target, None))
            told = net.measure.best(told, through)
    return told


def needed_tables(net, hubs, sources):
    """The tables from some roads and from all their hubs."""
    outward = [hub for source in sources for hub in hubs.outward(source)]
    return tables_from(net, sorted(set(list(sources) + outward)))


def hubs_between(net, hubs, source, target):
    """What hubs tell from source to target."""
    return hubs_told(net, hubs, needed_tables(net, hubs, [source]), source, target)


def hubs_answer(net, hubs, begins, ends):
    """What hubs tell for a question."""
    measure, begun = net.measure, not_none(begins)
    tables = needed_tables(net, hubs, begun)
    told = None
    for begin in begun:
        for end in sorted(set(ends)):
            told = measure.best(told, measure.then(begun[begin], hubs_told(net, hubs, tables, begin, end)))
    return told

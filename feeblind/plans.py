"""Plans: an order of the roads, and the pairs that short-cuts may join."""

from feeblind.errors import BadOrder, BadPair, UnknownName
from feeblind.names import is_name
from feeblind.shapes import is_pair, sides
from feeblind.texts import read_lines


def check_places(order):
    """Raises BadOrder with the first item of an order that is no name or stands ahead."""
    ahead = {}
    for road in order:
        if not is_name(road) or road in ahead:
            raise BadOrder(road)
        ahead[road] = True


class PlanReader:
    """Takes the lines of a plan's text one by one; whole once the last one was taken."""

    def __init__(self):
        self.whole = False
        self.read_order = None
        self.read_pairs = []

    def takes(self, words):
        """Whether a text may go on with a line of these words, behind the lines that were taken."""
        if self.whole:
            return False
        if self.read_order is None:
            return self.takes_order(words)
        if words[0] == "pair":
            return self.takes_pair(words)
        self.whole = words == ["end"]
        return self.whole

    def takes_order(self, words):
        """Whether the first line may be one of these words."""
        roads = words[1:]
        self.read_order = roads
        return words[0] == "order" and all([is_name(road) for road in roads]) and len(set(roads)) == len(roads)

    def takes_pair(self, words):
        """Whether a pair may come next."""
        pair = tuple(words[1:])
        if not is_pair(pair, {road: True for road in self.read_order}):
            return False
        if self.read_pairs and pair <= self.read_pairs[-1]:
            return False
        self.read_pairs.append(pair)
        return True


class Plan:
    """An order of roads, the lowest first, and pairs of different roads of it."""

    def __init__(self, order, pairs):
        check_places(order)
        self._ranks = {road: at for at, road in enumerate(order)}
        for pair in pairs:
            if not is_pair(pair, self._ranks):
                source, target = sides(pair)
                raise BadPair(source, target)
        self._pairs = {pair: True for pair in sorted(pairs)}

    def order(self):
        """The list of the roads, the lowest first."""
        return list(self._ranks)

    def rank(self, road):
        """The position of a road in the order."""
        if not isinstance(road, str) or road not in self._ranks:
            raise UnknownName(road)
        return self._ranks[road]

    def pairs(self):
        """The ascending list of the pairs."""
        return list(self._pairs)

    def is_lower(self, one, other):
        """Whether a road is lower than another one."""
        return self._ranks[one] < self._ranks[other]

    def without(self, road):
        """The plan without a road and its pairs."""
        order = [name for name in self._ranks if name != road]
        return Plan(order, [pair for pair in self._pairs if road not in pair])

    def text(self):
        """The text of the plan."""
        lines = [" ".join(["order"] + list(self._ranks))]
        lines = lines + [f"pair {source} {target}" for source, target in self._pairs]
        return "".join([f"{line}\n" for line in lines + ["end"]])

    @staticmethod
    def read(text):
        """The plan with a text."""
        reader = PlanReader()
        read_lines(reader, text)
        return Plan(reader.read_order, reader.read_pairs)

    def __contains__(self, pair):
        return is_pair(pair, self._ranks) and pair in self._pairs

    def __len__(self):
        return len(self._pairs)

    def __bool__(self):
        return True

    def __eq__(self, other):
        return isinstance(other, Plan) and self._ranks == other._ranks and self._pairs == other._pairs

    def __repr__(self):
        return f"Plan({len(self._ranks)} roads, {len(self._pairs)} pairs)"


def check_order(shape, order):
    """Raises BadOrder with the first item that is no road or stands ahead, then with the least road that is missing."""
    ahead = {}
    for road in order:
        if road not in shape or road in ahead:
            raise BadOrder(road)
        ahead[road] = True
    for road in shape.roads():
        if road not in ahead:
            raise BadOrder(road)


def check_roads(shape, plan):
    """Raises BadOrder with the least road that only one of a shape and a plan has."""
    order = plan.order()
    known = {road: True for road in order}
    lone = [road for road in shape.roads() if road not in known] + [road for road in order if road not in shape]
    if lone:
        raise BadOrder(min(lone))


class Links:
    """The pairs between the roads that are not placed, by both sides, and all pairs that were ever among them."""

    def __init__(self, shape):
        self.ins = {road: {} for road in shape.roads()}
        self.outs = {road: {} for road in shape.roads()}
        self.found = []
        for source, target in shape.turns():
            self.link(source, target)

    def link(self, source, target):
        """Puts a pair to the pairs."""
        if target not in self.outs[source]:
            self.outs[source][target] = True
            self.ins[target][source] = True
            self.found.append((source, target))

    def settle(self, road):
        """Places a road: whoever leads into it is linked to whoever follows it."""
        sources = self.ins.pop(road)
        targets = self.outs.pop(road)
        for source in sources:
            self.outs[source].pop(road)
        for target in targets:
            self.ins[target].pop(road)
        for source in sources:
            for target in targets:
                if source != target:
                    self.link(source, target)


def low_pairs(shape, order):
    """The ascending list of the low pairs of a shape, for an order of its roads."""
    check_order(shape, order)
    links = Links(shape)
    for road in order:
        links.settle(road)
    return sorted(links.found)


def plan_of(shape, order, *, spare=()):
    """The plan of an order: its low pairs, and spare pairs."""
    return Plan(order, low_pairs(shape, order) + list(spare))


def order_by_few(shape):
    """The order in which the road with the fewest joints, and of those the least name, is placed next."""
    links = Links(shape)
    order = []
    while links.ins:
        joints = [(len(links.ins[road]) * len(links.outs[road]), road) for road in links.ins]
        road = min(joints)[1]
        links.settle(road)
        order.append(road)
    return order


def fitted(plan, shape):
    """The plan without roads that a shape lacks, with its new roads as the highest ones, and with its low pairs."""
    order = [road for road in plan.order() if road in shape]
    known = {road: True for road in order}
    order = order + [road for road in shape.roads() if road not in known]
    return plan_of(shape, order, spare=[pair for pair in plan.pairs() if pair[0] in shape and pair[1] in shape])

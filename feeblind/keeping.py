"""Kept plans: filled plans that are kept up when arcs change."""

from feeblind.ladder import fill, sources_by_rank, targets_by_rank, told_answer, told_between
from feeblind.nets import Net, not_none
from feeblind.plans import Plan
from feeblind.shapes import Shape


def joints_of(plan):
    """For each pair the roads lower than both by way of which it is joined of two other pairs, the lowest first."""
    sources, targets = sources_by_rank(plan), targets_by_rank(plan)
    joints = {pair: [] for pair in plan.pairs()}
    for road in plan.order():
        higher = [target for target in targets[road] if plan.is_lower(road, target)]
        for source in sources[road]:
            if plan.is_lower(road, source):
                for target in higher:
                    if (source, target) in joints:
                        joints[(source, target)].append(road)
    return joints


def pairs_in_order(plan):
    """The list of the pairs, those with the lowest lower road first: each one behind those of which it is joined."""
    ranked = [(min(plan.rank(source), plan.rank(target)), source, target) for source, target in plan.pairs()]
    return [(source, target) for _, source, target in sorted(ranked)]


class Kept:
    """A plan filled for a net, of which a change works only some pairs again."""

    def __init__(self, net, plan):
        self._table = fill(net, plan)
        self._net = net
        self._plan = plan
        self._joints = joints_of(plan)
        self._pairs = pairs_in_order(plan)
        self._many = len(plan.order())
        self._again = []
        self._moved = []

    def net_now(self):
        """The present net."""
        return self._net

    def plan_now(self):
        """The plan."""
        return self._plan

    def table(self):
        """The dict of the table, as fill gives it."""
        return not_none(self._table)

    @property
    def touched(self):
        """The number of pairs that the last change worked again."""
        return len(self._again)

    def change(self, arcs):
        """Puts a dict of arcs in, and works the pairs again that they may move."""
        net = self._net.with_arcs(arcs)
        changed = {turn: True for turn in arcs if net.arc(turn[0], turn[1]) != self._net.arc(turn[0], turn[1])}
        self._net = net
        again, moved = [], {}
        for pair in self._pairs:
            if pair in changed or self._leans_on(pair, moved):
                again.append(pair)
                value = self._worked(pair)
                if value != self._table.get(pair, None):
                    moved[pair] = True
                    self._table[pair] = value
        self._again = sorted(again)
        self._moved = sorted(moved)

    def _leans_on(self, pair, moved):
        """Whether a pair is joined of a pair that moved."""
        source, target = pair
        for road in self._joints[pair]:
            if (source, road) in moved or (road, target) in moved:
                return True
        return False

    def _worked(self, pair):
        """The value of a pair, from its arc and the pairs of which it is joined."""
        source, target = pair
        measure = self._net.measure
        value = self._net.arc(source, target)
        for road in self._joints[pair]:
            through = measure.then(self._table.get((source, road), None), self._table.get((road, target), None))
            value = measure.best(value, through)
        return value

    def again(self):
        """The ascending list of the pairs that the last change worked again."""
        return list(self._again)

    def moved(self):
        """The ascending list of the pairs whose value the last change made another one."""
        return list(self._moved)

    def told(self, begins, ends):
        """What is told for a question."""
        return told_answer(self._net.measure, self._plan, self._table, begins, ends)

    def between(self, source, target):
        """What is told from a road to a road."""
        return told_between(self._net.measure, self._plan, self._table, source, target)

    def twin(self):
        """An independent kept plan in the same state."""
        # What is filled already is not filled anew.
        other = Kept(Net(Shape([], []), self._net.measure, {}, {}), Plan([], []))
        other._table = {pair: self._table[pair] for pair in self._table}
        other._net = self._net
        other._plan = self._plan
        other._joints = self._joints
        other._pairs = self._pairs
        other._many = self._many
        other._again = list(self._again)
        other._moved = list(self._moved)
        return other

    def __call__(self, source, target):
        return told_between(self._net.measure, self._plan, self._table, source, target)

    def __len__(self):
        return len(self._joints)

    def __bool__(self):
        return True

    def __repr__(self):
        return f"Kept({self._many} roads, {len(self._joints)} pairs)"

"""Answers with sets of ways, and papers that a simple judge checks."""

from feeblind.errors import MeasureNotTaken, PlanNotTaken
from feeblind.judging import judge_plan
from feeblind.ladder import fan, fill, told_answer
from feeblind.nets import not_none
from feeblind.plain import best_of, worth_from
from feeblind.sentences import judge_measure
from feeblind.verdicts import PaperRefused, PaperTaken


def copied_whole(value):
    """Any value, with the lists and dicts within it copied."""
    if isinstance(value, list):
        return [copied_whole(item) for item in value]
    if isinstance(value, tuple):
        return tuple([copied_whole(item) for item in value])
    if isinstance(value, dict):
        return {key: copied_whole(value[key]) for key in value}
    return value


class Answer:
    """The answer to a question: its value, a set of ways, and perhaps a paper."""

    def __init__(self, value, ways, paper=None):
        self.value = value
        self.paper = paper
        self._ways = list(ways)

    def ways(self):
        """The list of the ways."""
        return list(self._ways)

    def __eq__(self, other):
        return isinstance(other, Answer) and self.value == other.value


class AnswerPaper:
    """Marks of roads, ways, and the claim that they show."""

    def __init__(self, marks, ways, claim):
        self.claim = claim
        self._marks = not_none(marks)
        self._ways = [copied_whole(way) for way in ways]

    def marks(self):
        """The dict of the marks that are not None, ascending."""
        return dict(self._marks)

    def ways(self):
        """The list of the ways."""
        return [copied_whole(way) for way in self._ways]

    def __eq__(self, other):
        return (isinstance(other, AnswerPaper) and self._marks == other._marks
                and self._ways == other._ways and self.claim == other.claim)


def begin_that_fails(measure, marks, begins):
    """The first of ascending begins whose mark is worse than it, or None."""
    for road in begins:
        if not measure.no_worse(marks.get(road, None), begins[road]):
            return road
    return None


def turn_that_fails(net, marks):
    """The first turn behind which the mark is worse than what the turn brings, or None."""
    measure = net.measure
    for source, target in net.shape.turns():
        brought = measure.then(marks.get(source, None), net.arc(source, target))
        if not measure.no_worse(marks.get(target, None), brought):
            return (source, target)
    return None


def answers(shape, way, begins, ends):
    """Whether any value is a way that answers a question, of whose begins none is None."""
    return shape.is_way(way) and way[0] in begins and way[-1] in ends


def way_that_fails(shape, ways, begins, ends):
    """The index of the first item that is no way that answers the question, or None."""
    for at, way in enumerate(ways):
        if not answers(shape, way, begins, ends):
            return at
    return None


def judge_answer(net, begins, ends, paper):
    """The verdict on an answer paper: the first of five looks that fails."""
    measure = net.measure
    begun, marks, ways = not_none(begins), paper.marks(), paper.ways()
    road = begin_that_fails(measure, marks, begun)
    if road is not None:
        return PaperRefused("begin", road)
    turn = turn_that_fails(net, marks)
    if turn is not None:
        return PaperRefused("turn", turn)
    if best_of(measure, [marks.get(end, None) for end in sorted(set(ends))]) != paper.claim:
        return PaperRefused("end", None)
    at = way_that_fails(net.shape, ways, begun, ends)
    if at is not None:
        return PaperRefused("way", at)
    if best_of(measure, [worth_from(net, begun[way[0]], way) for way in ways]) != paper.claim:
        return PaperRefused("worth", None)
    return PaperTaken()


def needed_rows(measure, rows):
    """The rows (way, value) that are left when each one is struck without which the best stays, in order."""
    behind = [None]
    for _, value in rows[::-1]:
        behind.append(measure.best(value, behind[-1]))
    whole = behind.pop()
    kept = []
    ahead = None
    for way, value in rows:
        if measure.best(ahead, behind.pop()) != whole:
            kept.append((way, value))
            ahead = measure.best(ahead, value)
    return kept


class Spreading:
    """Simple ways from the begins to each road, the best of which is the best of all ways found so far."""

    def __init__(self, net, begins):
        self.net = net
        self.found = {road: [((road,), begins[road])] for road in begins}
        self.bests = {road: begins[road] for road in begins}

    def grow(self, source, target):
        """Goes on from the ways to a road by a turn; whether this brings anything better."""
        measure, arc = self.net.measure, self.net.arc(source, target)
        rows, best = list(self.found.get(target, [])), self.bests.get(target, None)
        grown = False
        for way, value in self.found[source]:
            longer = measure.then(value, arc)
            # A way that comes back to a road is no better than it was there, so no ring is kept.
            if measure.best(best, longer) != best:
                rows.append((way + (target,), longer))
                best = measure.best(best, longer)
                grown = True
        if grown:
            self.found[target] = needed_rows(measure, rows)
            self.bests[target] = best
        return grown


def least_ways(net, begins, ends):
    """A set of ways for a question, ascending; the measure is taken."""
    spreading = Spreading(net, not_none(begins))
    present = sorted(spreading.found)
    while present:
        changed = {}
        for source in present:
            for target in net.shape.following(source):
                if spreading.grow(source, target):
                    changed[target] = True
        present = sorted(changed)
    rows = [row for end in sorted(set(ends)) for row in spreading.found.get(end, [])]
    return sorted([way for way, _ in needed_rows(net.measure, rows)])


def solve(net, plan, begins, ends):
    """The answer to a question, by a plan: the plain answer, a set of ways, and a paper that is taken."""
    verdict = judge_measure(net.measure)
    if not verdict.taken:
        raise MeasureNotTaken(verdict)
    verdict = judge_plan(net.shape, plan)
    if not verdict.taken:
        raise PlanNotTaken(verdict)
    table = fill(net, plan)
    value = told_answer(net.measure, plan, table, begins, ends)
    ways = least_ways(net, begins, ends)
    return Answer(value, ways, AnswerPaper(fan(net.measure, plan, table, begins), ways, value))

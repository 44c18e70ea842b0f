"""What a house has at one time, and what it has behind each deed; a state that was given out never changes."""

from feeblind.edits import check_edits, edited
from feeblind.keeping import Kept
from feeblind.nets import net_of
from feeblind.plans import fitted, plan_of
from feeblind.shapes import shape_of


class KeptFor:
    """A kept plan, with the wheel and the measure that it is kept for."""

    def __init__(self, wheel, measure, kept):
        self.wheel = wheel
        self.measure = measure
        self.kept = kept

    def is_for(self, wheel, measure):
        """Whether it is kept for a wheel and a measure."""
        return self.wheel == wheel and self.measure == measure

    def put_into(self, chart):
        """The same for another chart with an equal shape; this one stays as it is."""
        net = net_of(chart, self.measure, wheel=self.wheel)
        twin = self.kept.twin()
        twin.change({turn: net.arc(turn[0], turn[1]) for turn in chart.turns()})
        return KeptFor(self.wheel, self.measure, twin)


class State:
    """A chart, a plan, cells or None, kept plans, the charts to undo and redo, a version and the last work."""

    def __init__(self, chart, plan):
        self.chart = chart
        self.plan = plan
        self.lots = None
        self.keeps = []
        self.done = []
        self.undone = []
        self.number = 0
        self.worked = 0

    def same(self):
        """A new state with the same parts, which may be replaced, but are not to be changed themselves."""
        other = State(self.chart, self.plan)
        other.lots = self.lots
        other.keeps = self.keeps
        other.done = self.done
        other.undone = self.undone
        other.number = self.number
        other.worked = self.worked
        return other

    def kept_for(self, wheel, measure):
        """The kept plan for a wheel and a measure, or None."""
        for keep in self.keeps:
            if keep.is_for(wheel, measure):
                return keep.kept
        return None


def first_state(chart, order):
    """The state of a new house, for an order of the roads."""
    return State(chart, plan_of(shape_of(chart), order))


def with_kept(state, wheel, measure):
    """The state with a kept plan for a wheel and a measure."""
    if state.kept_for(wheel, measure) is not None:
        return state
    kept = Kept(net_of(state.chart, measure, wheel=wheel), state.plan)
    other = state.same()
    other.keeps = state.keeps + [KeptFor(wheel, measure, kept)]
    return other


def with_plan(state, plan):
    """The state with another plan, without kept plans."""
    other = state.same()
    other.plan = plan
    other.keeps = []
    other.number = state.number + 1
    other.worked = 0
    return other


def with_cells(state, cells):
    """The state with cells."""
    other = state.same()
    other.lots = cells
    return other


def behind_deed(state, chart, done, undone):
    """The state behind a deed that leads to a chart, with the charts to undo and redo then."""
    other = state.same()
    other.chart = chart
    other.done = done
    other.undone = undone
    other.number = state.number + 1
    shape = shape_of(chart)
    if shape == shape_of(state.chart):
        other.keeps = [keep.put_into(chart) for keep in state.keeps]
    else:
        other.plan = fitted(state.plan, shape)
        other.lots = None
        other.keeps = []
    other.worked = sum([keep.kept.touched for keep in other.keeps])
    return other


def behind_edits(state, edits):
    """The state behind a list of edits; the same one without any."""
    check_edits(edits)
    if not edits:
        return state
    chart = state.chart
    for edit in edits:
        chart = edited(chart, edit)
    return behind_deed(state, chart, state.done + [state.chart], [])


def behind_undo(state):
    """The state with the last step taken back; there must be one."""
    return behind_deed(state, state.done[-1], state.done[:-1], state.undone + [state.chart])


def behind_redo(state):
    """The state with the step done again that was taken back last; there must be one."""
    return behind_deed(state, state.undone[-1], state.done + [state.chart], state.undone[:-1])

"""The house: a chart with a plan, cells, kept plans and a history, that answers questions from place to place."""

from feeblind.bounds import led
from feeblind.cells import cell_tables, cells_answer, check_cells
from feeblind.charts import Chart
from feeblind.errors import AtHome, BadName, BadWay, MeasureNotTaken, NothingLeft, PlanNotTaken, UnknownName
from feeblind.hubs import hubs_answer, hubs_of
from feeblind.judging import judge_plan
from feeblind.measures import Price
from feeblind.names import WHEEL, is_name
from feeblind.nets import begins_at, ends_at, net_of
from feeblind.opentables import open_table
from feeblind.papers import Answer, AnswerPaper, least_ways
from feeblind.plain import plain_answer, spread
from feeblind.plans import order_by_few
from feeblind.rows import Open
from feeblind.sentences import judge_measure
from feeblind.shapes import shape_of
from feeblind.states import (
    behind_edits, behind_redo, behind_undo, first_state, with_cells, with_kept, with_plan,
)


class Question:
    """A question from place to place, for a wheel and a measure, in the chart of a state."""

    def __init__(self, state, start, goal, measure, wheel):
        self.wheel = wheel
        self.net = net_of(state.chart, measure, wheel=wheel)
        self.begun = begins_at(state.chart, self.net, start)
        self.goals = ends_at(state.chart, goal)


def by_plan(state, question):
    """The plain answer with the kept plan, which must be there."""
    kept = state.kept_for(question.wheel, question.net.measure)
    return kept.told(question.begun, question.goals)


def by_hubs(state, question):
    """The plain answer with the hubs of the plan."""
    return hubs_answer(question.net, hubs_of(state.plan), question.begun, question.goals)


def by_cells(state, question):
    """The plain answer with the cells, which must be there."""
    tables = cell_tables(question.net, state.lots)
    return cells_answer(question.net, state.lots, tables, question.begun, question.goals)


def by_led(_state, question):
    """The plain answer by led search, for a net of prices."""
    price, _ = led(question.net, question.begun, question.goals, {})
    return price


def by_rounds(_state, question):
    """The plain answer by rounds."""
    return plain_answer(question.net, question.begun, question.goals)


WORDS = {
    "plan": by_plan,
    "hubs": by_hubs,
    "cells": by_cells,
    "led": by_led,
    "rounds": by_rounds,
}


def check_places(state, start, goal):
    """Raises UnknownName with the first of start and goal that is no known place."""
    places = state.chart.places()
    for place in (start, goal):
        if not isinstance(place, str) or place not in places:
            raise UnknownName(place)


def check_measure(measure):
    """Raises MeasureNotTaken with the verdict on a measure that is refused."""
    verdict = judge_measure(measure)
    if not verdict.taken:
        raise MeasureNotTaken(verdict)


def check_word(state, measure, by):
    """Raises BadWay unless a question may be asked by any value."""
    if not isinstance(by, str) or by not in WORDS:
        raise BadWay(by)
    if (by == "cells" and state.lots is None) or (by == "led" and not isinstance(measure, Price)):
        raise BadWay(by)


def answered(state, question, by, paper):
    """The answer to a question by a word, with a paper if paper is True."""
    net, begins, ends = question.net, question.begun, question.goals
    answerer = WORDS[by]
    value = answerer(state, question)
    ways = least_ways(net, begins, ends)
    return Answer(value, ways, AnswerPaper(spread(net, begins), ways, value) if paper else None)


class House:
    """A chart that is edited, and asked for the best ways between its places."""

    def __init__(self, chart, *, order=None):
        self.state = first_state(chart, order_by_few(shape_of(chart)) if order is None else order)

    def chart_now(self):
        """The present chart."""
        return self.state.chart

    def plan_now(self):
        """The present plan."""
        return self.state.plan

    def cells_now(self):
        """The cells, or None."""
        return self.state.lots

    @property
    def version(self):
        """The number of deeds and of plans put in so far."""
        return self.state.number

    @property
    def work(self):
        """The number of pairs that the last deed worked again in all kept plans."""
        return self.state.worked

    def do(self, *edits):
        """Does all edits in order, or none, as one step of the history."""
        self.state = behind_edits(self.state, edits)

    def undo(self):
        """Takes the last step back."""
        if not self.state.done:
            raise NothingLeft()
        self.state = behind_undo(self.state)

    def redo(self):
        """Does the step again that was taken back last."""
        if not self.state.undone:
            raise NothingLeft()
        self.state = behind_redo(self.state)

    def history(self):
        """The pair of the numbers of steps that can be undone and redone."""
        return (len(self.state.done), len(self.state.undone))

    def use(self, plan):
        """Puts another plan in, which must be taken."""
        verdict = judge_plan(shape_of(self.state.chart), plan)
        if not verdict.taken:
            raise PlanNotTaken(verdict)
        self.state = with_plan(self.state, plan)

    def use_cells(self, cells):
        """Puts cells in."""
        check_cells(shape_of(self.state.chart), cells)
        self.state = with_cells(self.state, cells)

    def ask(self, start, goal, *, measure, wheel=WHEEL, by="plan", paper=False):
        """The answer to a question from place to place, by a word, with a paper if paper is True."""
        check_places(self.state, start, goal)
        check_measure(measure)
        check_word(self.state, measure, by)
        if start == goal:
            return Answer(measure.stay, [()])
        if by == "plan":
            self.state = with_kept(self.state, wheel, measure)
        return answered(self.state, Question(self.state, start, goal, measure, wheel), by, paper)

    def table(self, *, measure, wheel=WHEEL):
        """The table of the kept plan for a wheel and a measure."""
        check_measure(measure)
        self.state = with_kept(self.state, wheel, measure)
        return self.state.kept_for(wheel, measure).table()

    def fees_table(self, start, goal, *, wish, wheel=WHEEL):
        """The table of a question from place to place for all fees and closings of doubtful roads."""
        check_places(self.state, start, goal)
        if not is_name(wish):
            raise BadName(wish)
        if start == goal:
            raise AtHome(start)
        question = Question(self.state, start, goal, Open(wish), wheel)
        return open_table(question.net, question.begun, question.goals)

    def tried(self, *edits, start, goal, measure, wheel=WHEEL):
        """The answer that would be given behind some edits; the house stays as it is."""
        other = self.twin()
        other.do(*edits)
        return other.ask(start, goal, measure=measure, wheel=wheel)

    def twin(self):
        """An independent house in the same state."""
        other = House(Chart())
        # States never change, so both houses may have one.
        other.state = self.state
        return other

    def __call__(self, start, goal):
        return self.ask(start, goal, measure=Price("cost")).value

    def __len__(self):
        return len(self.state.chart)

    def __bool__(self):
        return True

    def __eq__(self, other):
        return (isinstance(other, House) and self.state.chart == other.state.chart
                and self.state.plan == other.state.plan)

    def __repr__(self):
        return f"House({len(self.state.chart)} roads)"

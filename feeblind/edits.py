"""Edits of charts, and the edits that lead back."""

from feeblind.charts import Chart
from feeblind.errors import BadEdit, OtherEnds
from feeblind.roads import Road, Rule


def is_edit(value):
    """Whether any value is an edit."""
    if not isinstance(value, tuple) or len(value) not in (2, 3):
        return False
    word = value[0]
    if len(value) == 3:
        return word == "free"
    if word == "add" or word == "fees":
        return isinstance(value[1], Road)
    if word == "rule":
        return isinstance(value[1], Rule)
    return word == "drop"


def check_edits(edits):
    """Raises BadEdit with the index of the first item of a list that is no edit."""
    for at, edit in enumerate(edits):
        if not is_edit(edit):
            raise BadEdit(at)


def rules_of(chart, name):
    """The list of the rules of the turns of a road, ascending by source and target."""
    return [rule for rule in chart.rules() if name in (rule.source, rule.target)]


def roads_without(chart, name):
    """The list of the roads of a chart but the one with a name."""
    return [road for road in chart.roads() if road.name != name]


def rules_without(chart, source, target):
    """The list of the rules of a chart but the one of a turn."""
    chart.rule(source, target)
    return [rule for rule in chart.rules() if rule.source != source or rule.target != target]


def dropped(chart, name):
    """The chart without a road and the rules of its turns."""
    chart.road_named(name)
    rules = [rule for rule in chart.rules() if name not in (rule.source, rule.target)]
    return Chart(roads_without(chart, name), rules)


def with_fees(chart, road):
    """The chart with a road in the place of the one with the same name."""
    old = chart.road_named(road.name)
    if old.tail != road.tail or old.head != road.head:
        raise OtherEnds(road.name)
    return Chart(roads_without(chart, road.name) + [road], chart.rules())


def edited(chart, edit):
    """The chart with one edit done."""
    check_edits([edit])
    word, what = edit[0], edit[1]
    if word == "add":
        return Chart(chart.roads() + [what], chart.rules())
    if word == "drop":
        return dropped(chart, what)
    if word == "fees":
        return with_fees(chart, what)
    if word == "rule":
        return Chart(chart.roads(), rules_without(chart, what.source, what.target) + [what])
    return Chart(chart.roads(), rules_without(chart, what, edit[2]))


def opposite(chart, edit):
    """The list of edits that lead back when they are applied in order behind an edit of a chart."""
    edited(chart, edit)
    word, what = edit[0], edit[1]
    if word == "add":
        return [("drop", what.name)]
    if word == "drop":
        return [("add", chart.road_named(what))] + [("rule", rule) for rule in rules_of(chart, what)]
    if word == "fees":
        return [("fees", chart.road_named(what.name))]
    source, target = (what.source, what.target) if word == "rule" else edit[1:]
    old = chart.rule(source, target)
    return [("free", source, target) if old is None else ("rule", old)]

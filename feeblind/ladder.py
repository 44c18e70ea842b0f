"""Filling plans with the fees of a net, and asking them: up by lower roads, and down again."""

from feeblind.nets import not_none
from feeblind.plain import plain_answer, plain_between
from feeblind.plans import check_roads


def sources_by_rank(plan):
    """For each road the sources of the pairs into it, the lowest first."""
    order = plan.order()
    found = {road: [] for road in order}
    ranked = sorted([(plan.rank(source), target) for source, target in plan.pairs()])
    for rank, road in ranked:
        found[road].append(order[rank])
    return found


def targets_by_rank(plan):
    """For each road the targets of the pairs from it, the lowest first."""
    order = plan.order()
    found = {road: [] for road in order}
    ranked = sorted([(plan.rank(target), source) for source, target in plan.pairs()])
    for rank, road in ranked:
        found[road].append(order[rank])
    return found


def fill(net, plan):
    """The table of a plan for a net: for each pair the best that is joined by way of lower roads."""
    check_roads(net.shape, plan)
    measure = net.measure
    table = {(source, target): net.arc(source, target) for source, target in plan.pairs()}
    sources, targets = sources_by_rank(plan), targets_by_rank(plan)
    for road in plan.order():
        higher = [target for target in targets[road] if plan.is_lower(road, target)]
        for source in sources[road]:
            if plan.is_lower(road, source):
                for target in higher:
                    if (source, target) in table:
                        through = measure.then(table[(source, road)], table[(road, target)])
                        table[(source, target)] = measure.best(table[(source, target)], through)
    return not_none(table)


def climb(measure, plan, table, begins):
    """U of [21]: for each road the best from the begins by rising steps."""
    sources = sources_by_rank(plan)
    ups = {}
    for road in plan.order():
        up = begins.get(road, None)
        for source in sources[road]:
            if plan.is_lower(source, road):
                up = measure.best(up, measure.then(ups[source], table.get((source, road), None)))
        ups[road] = up
    return not_none(ups)


def climb_back(measure, plan, table, ends):
    """V of [21]: for each road the best to the ends by falling steps."""
    targets = targets_by_rank(plan)
    backs = {}
    for road in plan.order():
        back = measure.stay if road in ends else None
        for target in targets[road]:
            if plan.is_lower(target, road):
                back = measure.best(back, measure.then(table.get((road, target), None), backs[target]))
        backs[road] = back
    return not_none(backs)


def fan(measure, plan, table, begins):
    """X of [21]: for each road the best from the begins, by rising and then falling steps."""
    sources = sources_by_rank(plan)
    marks = climb(measure, plan, table, begins)
    for road in plan.order()[::-1]:
        mark = marks.get(road, None)
        for source in sources[road][::-1]:
            if plan.is_lower(road, source):
                mark = measure.best(mark, measure.then(marks[source], table.get((source, road), None)))
        marks[road] = mark
    return not_none(marks)


def fan_back(measure, plan, table, ends):
    """Y of [21]: for each road the best to the ends, by rising and then falling steps."""
    targets = targets_by_rank(plan)
    marks = climb_back(measure, plan, table, ends)
    for road in plan.order()[::-1]:
        mark = marks.get(road, None)
        for target in targets[road][::-1]:
            if plan.is_lower(road, target):
                mark = measure.best(mark, measure.then(table.get((road, target), None), marks[target]))
        marks[road] = mark
    return not_none(marks)


def meet(measure, plan, ups, backs):
    """The best of what is joined at each road, from the lowest road on."""
    told = None
    for road in plan.order():
        told = measure.best(told, measure.then(ups.get(road, None), backs.get(road, None)))
    return told


def told_answer(measure, plan, table, begins, ends):
    """What is told for a question."""
    return meet(measure, plan, climb(measure, plan, table, begins), climb_back(measure, plan, table, ends))


def told_between(measure, plan, table, source, target):
    """What is told from a road to a road."""
    return told_answer(measure, plan, table, {source: measure.stay}, [target])


def told_many(measure, plan, table, questions, goals):
    """For each of a list of begins the list of what is told for each of a list of lists of ends."""
    backs = [climb_back(measure, plan, table, ends) for ends in goals]
    ups = [climb(measure, plan, table, begins) for begins in questions]
    return [[meet(measure, plan, up, back) for back in backs] for up in ups]


def told_case(case):
    """What is told in a case, with its plan filled."""
    measure, table = case.net.measure, fill(case.net, case.plan)
    if case.source is None:
        return told_answer(measure, case.plan, table, case.begins(), case.ends())
    return told_between(measure, case.plan, table, case.source, case.target)


def plain_case(case):
    """The plain meaning in a case."""
    if case.source is None:
        return plain_answer(case.net, case.begins(), case.ends())
    return plain_between(case.net, case.source, case.target)

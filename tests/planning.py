"""Plans for tests, and plain ways to what the document says of plans, tables and answers by them."""

from itertools import product
from random import Random

from feeblind.plans import Plan
from feeblind.told import Told
from tests.charting import some_net, some_question, some_shape
from tests.oracles import first_fault


def low_pairs_by_walk(shape, order):
    """The ascending list of the low pairs, by walking on over roads that are lower than both ends."""
    rank = {road: at for at, road in enumerate(order)}
    turns = shape.turns()
    found = []
    for u in order:
        for v in order:
            seen = {u}
            while u != v:
                more = {t for s, t in turns if s in seen and t not in seen and (s == u or rank[s] < min(rank[u], rank[v]))}
                if not more:
                    break
                seen |= more
            if u != v and v in seen:
                found.append((u, v))
    return sorted(found)


def low_pairs_by_closing(shape, order):
    """The least set of pairs with all turns that has (u, v) with (u, w), (w, v) and w lower than both."""
    rank = {road: at for at, road in enumerate(order)}
    pairs = set(shape.turns())
    while True:
        more = {
            (u, v) for u, w in pairs for x, v in pairs
            if w == x and u != v and rank[w] < rank[u] and rank[w] < rank[v]
        } - pairs
        if not more:
            return sorted(pairs)
        pairs |= more


def low_ways_by_hand(shape, order, source, target):
    """All simple low ways from source to target."""
    rank = {road: at for at, road in enumerate(order)}
    turns = shape.turns()
    found = []
    begun = [(source,)]
    while begun:
        way = begun.pop()
        for u, v in turns:
            if u == way[-1] and v == target:
                found.append(way + (v,))
            elif u == way[-1] and v not in way and rank[v] < rank[source] and rank[v] < rank[target]:
                begun.append(way + (v,))
    return sorted(found)


def few_by_hand(shape):
    """The order by few, with all pairs counted anew for each road."""
    left, pairs, order = shape.roads(), set(shape.turns()), []
    while left:
        def product_of(road):
            ins = [pair for pair in pairs if pair[1] == road and pair[0] in left]
            outs = [pair for pair in pairs if pair[0] == road and pair[1] in left]
            return len(ins) * len(outs), road
        road = min(left, key=product_of)
        order.append(road)
        left.remove(road)
        for u in left:
            for v in left:
                if u != v and (u, road) in pairs and (road, v) in pairs:
                    pairs.add((u, v))
    return order


def filled_by_hand(net, plan):
    """The table, in the words of [20]."""
    measure, order, pairs, arcs = net.measure, plan.order(), plan.pairs(), net.arcs()
    table = {pair: arcs.get(pair) for pair in pairs}
    for at, w in enumerate(order):
        for u in order[at + 1:]:
            for v in order[at + 1:]:
                if u != v and (u, w) in pairs and (w, v) in pairs and (u, v) in pairs:
                    table[(u, v)] = measure.best(table[(u, v)], measure.then(table[(u, w)], table[(w, v)]))
    return {pair: table[pair] for pair in sorted(table) if table[pair] is not None}


def some_only(values):
    """The dict of those values that are not None, ascending."""
    return {key: values[key] for key in sorted(values) if values[key] is not None}


def ups_by_hand(measure, plan, table, begins):
    """U, in the words of [21]."""
    order, ups = plan.order(), {}
    for at, v in enumerate(order):
        ups[v] = begins.get(v)
        for u in order[:at]:
            if (u, v) in plan.pairs():
                ups[v] = measure.best(ups[v], measure.then(ups[u], table.get((u, v))))
    return ups


def backs_by_hand(measure, plan, table, ends):
    """V, in the words of [21]."""
    order, backs = plan.order(), {}
    for at, u in enumerate(order):
        backs[u] = measure.stay if u in ends else None
        for v in order[:at]:
            if (u, v) in plan.pairs():
                backs[u] = measure.best(backs[u], measure.then(table.get((u, v)), backs[v]))
    return backs


def fan_by_hand(measure, plan, table, begins):
    """X, in the words of [21]."""
    order, ups, marks = plan.order(), ups_by_hand(measure, plan, table, begins), {}
    for at in range(len(order) - 1, -1, -1):
        h = order[at]
        marks[h] = ups[h]
        for g in order[:at:-1]:
            if (g, h) in plan.pairs():
                marks[h] = measure.best(marks[h], measure.then(marks[g], table.get((g, h))))
    return marks


def fan_back_by_hand(measure, plan, table, ends):
    """Y, in the words of [21]."""
    order, backs, marks = plan.order(), backs_by_hand(measure, plan, table, ends), {}
    for at in range(len(order) - 1, -1, -1):
        h = order[at]
        marks[h] = backs[h]
        for g in order[:at:-1]:
            if (h, g) in plan.pairs():
                marks[h] = measure.best(marks[h], measure.then(table.get((h, g)), marks[g]))
    return marks


def told_by_hand(measure, plan, table, begins, ends):
    """What is told, in the words of [21]."""
    ups, backs = ups_by_hand(measure, plan, table, begins), backs_by_hand(measure, plan, table, ends)
    told = None
    for h in plan.order():
        told = measure.best(told, measure.then(ups[h], backs[h]))
    return told


def worked_by_hand(old, new, plan):
    """The pairs that are worked again and those that moved, in the words of [27], from both nets alone."""
    before, after = filled_by_hand(old, plan), filled_by_hand(new, plan)
    pairs, order = plan.pairs(), plan.order()
    moved = [pair for pair in pairs if before.get(pair) != after.get(pair)]
    again = []
    for u, v in pairs:
        turned = (u, v) in old.shape.turns() and old.arc(u, v) != new.arc(u, v)
        leaning = False
        for w in order[:min(order.index(u), order.index(v))]:
            if (u, w) in pairs and (w, v) in pairs and ((u, w) in moved or (w, v) in moved):
                leaning = True
        if turned or leaning:
            again.append((u, v))
    return sorted(again), sorted(moved)


def some_order(random, shape):
    """The roads of a shape in some order."""
    return random.sample(shape.roads(), len(shape))


def full_plan(random, shape):
    """A plan with all low pairs for some order, and with some spare ones."""
    order = some_order(random, shape)
    others = [(u, v) for u in order for v in order if u != v]
    spare = random.sample(others, random.choice((0, 0, len(others) // 3, len(others))))
    return Plan(order, low_pairs_by_walk(shape, order) + spare)


def any_plan(random, shape):
    """A plan with any pairs for some order."""
    order = some_order(random, shape)
    others = [(u, v) for u in order for v in order if u != v]
    return Plan(order, random.sample(others, random.randint(0, len(others))))


def full_case(random, measure, values, most=5):
    """A net, a plan with all low pairs, and a question."""
    net = some_net(random, some_shape(random, most), measure, values)
    return (net, full_plan(random, net.shape), *some_question(random, net, values))


def fitting_told(random, many, kind):
    """A Told measure with tables that keep more and more sentences, kind by kind; the rest of them is random."""
    names = ["o", "p", "q", "r"][:many]
    best = [[random.choice(names) for _ in names] for _ in names]
    then = [[random.choice(names) for _ in names] for _ in names]
    ranks = {name: at for at, name in enumerate(random.sample(names, many))}
    if kind >= 4:
        ranks["o"] = -1
    for i, j in product(range(many), repeat=2):
        if kind >= 1 and (i == 0 or j == 0):
            then[i][j] = names[i + j]
        if kind >= 2 and i < j:
            best[i][j] = best[j][i]
        if kind >= 3:
            best[i][j] = min(names[i], names[j], key=lambda name: ranks[name])
    if kind == 5:
        kept = [name for name in names if random.random() < 0.5]
        then = [[b if a == "o" or a in kept and b != "o" else a for b in names] for a in names]
    return Told(names, best, then, "o")


def broken_told(seed, many):
    """For each sentence so many Told measures that break it first."""
    random = Random(seed)
    found = {}
    for _ in range(20000):
        measure = fitting_told(random, random.randint(2, 4), random.randint(0, 5))
        fault = first_fault(measure)
        if fault is not None and len(found.setdefault(fault[0], [])) < many:
            found[fault[0]].append(measure)
        if len(found) == 8 and all(len(measures) == many for measures in found.values()):
            break
    return found

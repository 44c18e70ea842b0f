"""Cells for tests, and plain ways to what the document says of them ([30], [31])."""

from feeblind.cells import Cells
from feeblind.nets import Net
from tests.charting import all_simple_ways, folded, joined, some_shape


def parted(random, items):
    """Some items in some lots, none of them empty."""
    left = random.sample(list(items), len(items))
    lots = []
    while left:
        many = random.randint(1, len(left))
        lots.append(left[:many])
        left = left[many:]
    return lots


def some_levels(random, roads, many):
    """So many levels of lots of some roads, each lot within one of the next level."""
    lots = parted(random, roads)
    levels = [lots]
    for _ in range(many - 1):
        groups = parted(random, range(len(lots)))
        lots = [[road for at in group for road in lots[at]] for group in groups]
        levels.append(lots)
    return levels


def some_cells(random, shape):
    """Cells of one to three levels for a shape."""
    return Cells(some_levels(random, shape.roads(), random.randint(1, 3)))


def apart_by_hand(cells, source, target):
    """The cells apart from a pair, in the words of [30]."""
    lots = {cell: set(cells.lot(cell)) for cell in cells.cells()}
    free = [cell for cell in lots if not lots[cell] & {source, target}]
    return [cell for cell in free if not any(other[0] > cell[0] and lots[cell] <= lots[other] for other in free)]


def sides_by_hand(shape, lot):
    """The entry roads and the exit roads of a lot."""
    turns = shape.turns()
    entries = sorted({v for u, v in turns if v in lot and u not in lot})
    return entries, sorted({u for u, v in turns if u in lot and v not in lot})


def best_of_arcs(measure, roads, arcs, source, target):
    """The best worth of all ways from source to target by a dict of arcs; rings are no better, so of the simple ones."""
    ways = all_simple_ways(roads, arcs, source, target)
    values = [joined(measure, [measure.stay] + [arcs[turn] for turn in zip(way, way[1:])]) for way in ways]
    return folded(measure, values)


def table_by_hand(net, lot):
    """The table of a cell with a lot, by going through all ways by its roads alone."""
    entries, exits = sides_by_hand(net.shape, lot)
    arcs = {turn: value for turn, value in net.arcs().items() if set(turn) <= set(lot)}
    table = {(e, x): best_of_arcs(net.measure, lot, arcs, e, x) for e in entries for x in exits if e != x}
    return {pair: table[pair] for pair in sorted(table) if table[pair] is not None}


def told_by_hand(net, cells, tables, source, target):
    """What cells tell, in the words of [31], by going through all simple ways of the net that is described there."""
    measure, apart = net.measure, apart_by_hand(cells, source, target)
    lots = [set(cells.lot(cell)) for cell in apart]
    arcs = {turn: value for turn, value in net.arcs().items() if not any(set(turn) <= lot for lot in lots)}
    for cell in apart:
        for pair, value in tables.get(cell, {}).items():
            arcs[pair] = folded(measure, [arcs.get(pair), value])
    return best_of_arcs(measure, net.shape.roads(), {pair: arcs[pair] for pair in arcs if arcs[pair] is not None}, source, target)


def hand_tables(random, cells, values):
    """Tables of cells made by hand: some cells without a row, any pairs of the roads of the others, some of them None."""
    tables = {}
    for cell in cells.cells():
        lot = cells.lot(cell)
        pairs = [(u, v) for u in lot for v in lot if u != v]
        if random.random() < 0.8:
            chosen = random.sample(pairs, random.randint(0, len(pairs)))
            tables[cell] = {pair: random.choice(list(values) + [None]) for pair in chosen}
    return tables


def close_net(random, measure, values, most=6):
    """A net with many turns, and with few arcs that are None."""
    shape = some_shape(random, most, 1)
    choice = list(values) * 3 + [None]
    return Net(shape, measure, {}, {turn: random.choice(choice) for turn in shape.turns()})

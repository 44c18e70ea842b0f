"""Cells: lots of roads on one to three levels, with tables of the best ways within them, and what these tell."""

from feeblind.errors import BadCells, UnknownCell
from feeblind.names import is_number
from feeblind.nets import not_none
from feeblind.plain import best_of, spread_by, steps_by


def counted(level):
    """How often each road stands in the lots of a level."""
    many = {}
    for lot in level:
        for road in lot:
            many[road] = many.get(road, 0) + 1
    return many


def check_once(levels):
    """Raises BadCells with the least road that does not stand exactly once in each level."""
    counts = [counted(level) for level in levels]
    standing = [name for many in counts for name in many]
    for road in sorted(set(standing)):
        if not all([many.get(road, 0) == 1 for many in counts]):
            raise BadCells(road)


def places_in(levels):
    """For each road of the levels, ascending, the list of the indexes of its lots, one for each level."""
    found = {}
    for level in levels:
        for index, lot in enumerate(level):
            for road in lot:
                found.setdefault(road, []).append(index)
    return {road: found[road] for road in sorted(found)}


def check_within(levels, places):
    """Raises BadCells with the least road of which a lot does not lie within the one of the next level."""
    for road in places:
        for at, level in enumerate(levels[1:]):
            lower = levels[at][places[road][at]]
            higher = places[road][at + 1]
            if not all([places[other][at + 1] == higher for other in lower]):
                raise BadCells(road)


def holders_of(lots):
    """For each cell of a dict of lots the list of the cells of higher levels within which it lies."""
    found = {}
    for cell in lots:
        higher = [holder for holder in lots if holder[0] > cell[0]]
        found[cell] = [holder for holder in higher if all([road in lots[holder] for road in lots[cell]])]
    return found


class Cells:
    """Levels of lots; each lot is a cell, written as its level, from 1, and its index, from 0."""

    def __init__(self, levels):
        check_once(levels)
        self._places = places_in(levels)
        check_within(levels, self._places)
        self._many = len(levels)
        self._lots = {}
        for at, level in enumerate(levels):
            for index, lot in enumerate(level):
                self._lots[(at + 1, index)] = sorted(lot)
        self._holders = holders_of(self._lots)

    def roads(self):
        """The ascending list of the roads."""
        return list(self._places)

    def cells(self):
        """The ascending list of all cells."""
        return list(self._lots)

    def lot(self, cell):
        """The ascending list of the roads of a cell."""
        # For Python True equals 1, so being found is not enough.
        if not isinstance(cell, tuple) or not all([is_number(part) for part in cell]) or cell not in self._lots:
            raise UnknownCell(cell)
        return list(self._lots[cell])

    def cell_of(self, road, level):
        """The cell of a road at a level."""
        return (level, self._places[road][level - 1])

    def apart(self, source, target):
        """The ascending list of the cells that hold neither road, and lie within no higher cell that holds neither."""
        held = {}
        for road in (source, target):
            for level in range(1, self._many + 1):
                held[self.cell_of(road, level)] = True
        free = {cell: True for cell in self._lots if cell not in held}
        return [cell for cell in free if not any([holder in free for holder in self._holders[cell]])]

    def __len__(self):
        return len(self._lots)

    def __bool__(self):
        return True

    def __eq__(self, other):
        return isinstance(other, Cells) and self._lots == other._lots

    def __repr__(self):
        return f"Cells({len(self._lots)} cells)"


def check_cells(shape, cells):
    """Raises BadCells with the least road that only one of a shape and cells has."""
    known = {road: True for road in cells.roads()}
    lone = [road for road in shape.roads() if road not in known] + [road for road in known if road not in shape]
    if lone:
        raise BadCells(min(lone))


def lot_checked(shape, cells, cell):
    """The dict of the roads of a cell, ascending, behind the checks of the cells and the cell."""
    check_cells(shape, cells)
    return {road: True for road in cells.lot(cell)}


def entry_roads(shape, cells, cell):
    """The ascending list of the roads of a cell into which one turns from outside of it."""
    lot = lot_checked(shape, cells, cell)
    return [road for road in lot if any([source not in lot for source in shape.leading(road)])]


def exit_roads(shape, cells, cell):
    """The ascending list of the roads of a cell from which one turns to outside of it."""
    lot = lot_checked(shape, cells, cell)
    return [road for road in lot if any([target not in lot for target in shape.following(road)])]


def cell_table(net, cells, cell):
    """The table of a cell: for its entry and exit roads the best of all ways that go by its roads alone."""
    lot = lot_checked(net.shape, cells, cell)
    arcs = net.arcs()
    steps = steps_by({turn: arcs[turn] for turn in arcs if turn[0] in lot and turn[1] in lot})
    exits = exit_roads(net.shape, cells, cell)
    table = {}
    for entry in entry_roads(net.shape, cells, cell):
        bests = spread_by(net.measure, steps, {entry: net.measure.stay})
        for road in exits:
            if road != entry:
                table[(entry, road)] = bests.get(road, None)
    return not_none(table)


def cell_tables(net, cells):
    """The dict from all cells, ascending, to their tables."""
    check_cells(net.shape, cells)
    return {cell: cell_table(net, cells, cell) for cell in cells.cells()}


def arcs_told(net, cells, tables, apart):
    """The arcs of [31], for a list of cells that are apart from a pair of roads."""
    holder = {road: cell for cell in apart for road in cells.lot(cell)}
    arcs = net.arcs()
    found = {}
    for source, target in arcs:
        # No cell is None, so roads that are in no such cell are never in one and the same.
        if source not in holder or holder[source] != holder.get(target, None):
            found[(source, target)] = arcs[(source, target)]
    for cell in apart:
        for pair, value in tables.get(cell, {}).items():
            found[pair] = net.measure.best(found.get(pair, None), value)
    return found


def cells_between(net, cells, tables, source, target):
    """What cells tell from source to target, with any tables."""
    return cells_answer(net, cells, tables, {source: net.measure.stay}, [target])


def ends_by_apart(cells, begin, ends):
    """For each lot of cells that are apart from a begin and an end, as a tuple, the list of such ends."""
    found = {}
    for end in sorted(set(ends)):
        found.setdefault(tuple(cells.apart(begin, end)), []).append(end)
    return found


def cells_answer(net, cells, tables, begins, ends):
    """What cells tell for a question, with any tables."""
    measure, begun = net.measure, not_none(begins)
    told = None
    for begin in begun:
        for apart, goals in ends_by_apart(cells, begin, ends).items():
            steps = steps_by(arcs_told(net, cells, tables, apart))
            bests = spread_by(measure, steps, {begin: begun[begin]})
            told = measure.best(told, best_of(measure, [bests.get(goal, None) for goal in goals]))
    return told

"""The yard, where workers work out the tables of cells while arcs change."""

from feeblind.cells import cell_table, cells_between, check_cells
from feeblind.errors import Busy, Idle, NotReady, UnknownWorker
from feeblind.names import is_number


class Yard:
    """A net with cells, and workers who take cells and finish their tables, or fall."""

    def __init__(self, net, cells, *, workers=3):
        check_cells(net.shape, cells)
        self._net = net
        self._cells = cells
        self._workers = workers
        self._stamps = {cell: 0 for cell in cells.cells()}
        # Only tables under the present stamps of their cells are held here.
        self._tables = {}
        self._jobs = {}

    def net_now(self):
        """The present net."""
        return self._net

    @property
    def waits(self):
        """The number of cells that are not fresh."""
        return len([cell for cell in self._stamps if cell not in self._tables])

    def stamp(self, cell):
        """How many changes changed the arc of a turn within a cell."""
        self._check_cell(cell)
        return self._stamps[cell]

    def is_fresh(self, cell):
        """Whether a table is kept for a cell under its present stamp."""
        self._check_cell(cell)
        return cell in self._tables

    def table(self, cell):
        """The dict of the table that is kept for a cell."""
        if not self.is_fresh(cell):
            raise NotReady(cell)
        return {pair: self._tables[cell][pair] for pair in self._tables[cell]}

    def change(self, arcs):
        """Puts a dict of arcs in; cells with other arcs within them are no longer fresh."""
        net = self._net.with_arcs(arcs)
        changed = [turn for turn in arcs if net.arc(turn[0], turn[1]) != self._net.arc(turn[0], turn[1])]
        self._net = net
        for cell in self._cells.cells():
            lot = self._cells.lot(cell)
            if any([source in lot and target in lot for source, target in changed]):
                self._stamps[cell] = self._stamps[cell] + 1
                self._tables.pop(cell, None)

    def take(self, worker, cell=None):
        """Gives a worker a cell, or the least one that no one has and that is not fresh; returns it, or None."""
        self._check_worker(worker)
        if worker in self._jobs:
            raise Busy(worker)
        taken = self._least_waiting() if cell is None else cell
        if taken is not None:
            self._check_cell(taken)
            self._jobs[worker] = (taken, self._stamps[taken], cell_table(self._net, self._cells, taken))
        return taken

    def finish(self, worker):
        """Ends the job of a worker; returns whether its table is kept, since the cell did not change meanwhile."""
        self._check_worker(worker)
        if worker not in self._jobs:
            raise Idle(worker)
        cell, stamp, table = self._jobs.pop(worker)
        if stamp != self._stamps[cell]:
            return False
        self._tables[cell] = table
        return True

    def fall(self, worker):
        """Ends the job of a worker, if there is one; its table is lost."""
        self._check_worker(worker)
        self._jobs.pop(worker, None)

    def job(self, worker):
        """The pair of the cell and the stamp of a worker's job, or None."""
        self._check_worker(worker)
        if worker not in self._jobs:
            return None
        cell, stamp, _ = self._jobs[worker]
        return (cell, stamp)

    def between(self, source, target):
        """What the yard tells from source to target; all cells apart from them must be fresh."""
        for cell in self._cells.apart(source, target):
            if cell not in self._tables:
                raise NotReady(cell)
        return cells_between(self._net, self._cells, self._tables, source, target)

    def twin(self):
        """An independent yard in the same state."""
        other = Yard(self._net, self._cells, workers=self._workers)
        other._stamps = {cell: self._stamps[cell] for cell in self._stamps}
        # The tables themselves are never changed, only put in and taken out.
        other._tables = {cell: self._tables[cell] for cell in self._tables}
        other._jobs = {worker: self._jobs[worker] for worker in self._jobs}
        return other

    def _check_worker(self, worker):
        """Raises UnknownWorker for any value that is no number of a worker."""
        if not is_number(worker, 0, self._workers - 1):
            raise UnknownWorker(worker)

    def _check_cell(self, cell):
        """Raises UnknownCell for any value that is no cell."""
        self._cells.lot(cell)

    def _least_waiting(self):
        """The least cell that is not fresh and that no job has under its present stamp, or None."""
        busy = {(cell, stamp): True for cell, stamp, _ in self._jobs.values()}
        for cell in self._cells.cells():
            if cell not in self._tables and (cell, self._stamps[cell]) not in busy:
                return cell
        return None

    def __len__(self):
        return len(self._stamps)

    def __bool__(self):
        return True

    def __repr__(self):
        return f"Yard({len(self._stamps)} cells)"

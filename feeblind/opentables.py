"""Tables for all fees and closings of doubtful roads: what they read, what breaks them, and where a fee counts."""

from feeblind.errors import BadFee, UnknownName, UnknownRow
from feeblind.names import is_number
from feeblind.nets import not_none
from feeblind.plain import plain_answer
from feeblind.rows import is_open_row
from feeblind.told import is_one_of


def price_of(row, fees):
    """The price of a row with the fees of the names of its lot, as often as they come there."""
    price, lot = row
    return price + sum([fees.get(name, 0) for name in lot])


def holds_all(lot, names):
    """Whether each of some names is in a lot."""
    return all([name in lot for name in names])


def least_lots(lots):
    """The lots of a list of different ones that have no other one within them."""
    kept = []
    for lot in sorted(lots, key=len):
        if not any([holds_all(lot, other) for other in kept]):
            kept.append(lot)
    return kept


def hitting_lots(lots):
    """The least lots, ascending, that have a name in common with each of some lots."""
    found = [()]
    for lot in lots:
        grown = {}
        for hit in found:
            if any([name in hit for name in lot]):
                grown[hit] = True
            else:
                for name in lot:
                    grown[tuple(sorted(hit + (name,)))] = True
        found = least_lots(list(grown))
    return sorted(found)


class OpenTable:
    """The rows of a value of Open, with the doubts that may have fees and be closed."""

    def __init__(self, doubts, value):
        self._doubts = {name: True for name in sorted(doubts)}
        self._rows = [] if value is None else list(value)

    def doubts(self):
        """The ascending list of the doubts."""
        return list(self._doubts)

    def rows(self):
        """The list of the rows."""
        return list(self._rows)

    def reading(self, *, fees=None, shut=()):
        """The least price of a row that can be used, with fees added and a list of doubts closed; or None."""
        added = self._checked(fees, shut)
        return min([price_of(row, added) for row in self._usable(shut)], default=None)

    def point(self, row):
        """The ascending list of the doubts that are closed where a row alone gives the least price."""
        # For Python True equals 1, so equal rows are not enough.
        if not is_open_row(row) or row not in self._rows:
            raise UnknownRow(row)
        return [name for name in self._doubts if name not in row[1]]

    def part(self, other):
        """None for equal rows, otherwise a list of doubts of both tables whose closing makes the readings differ."""
        rows, others = self.rows(), other.rows()
        lone = [row for row in rows if row not in others] + [row for row in others if row not in rows]
        if not lone:
            return None
        # The other table has no equal row with this least lot or within it, so it reads another price there.
        _, _, lot = min([(len(row[1]), row[0], row[1]) for row in lone])
        doubts = sorted(set(self.doubts() + other.doubts()))
        return [name for name in doubts if name not in lot]

    def breaking(self, *, fees=None):
        """The ascending list of the least lots of doubts, as tuples, whose closing changes the reading."""
        added = self._checked(fees, ())
        price = self.reading(fees=added)
        if price is None:
            return []
        lots = [sorted(set(row[1])) for row in self._rows if price_of(row, added) == price]
        return hitting_lots(lots) if all(lots) else []

    def useless(self):
        """The ascending list of the doubts that are in no row."""
        return [name for name in self._doubts if not any([name in row[1] for row in self._rows])]

    def limit(self, road, *, fees=None, shut=()):
        """The least number from which on the fee of a doubt changes nothing more, or None."""
        if not is_one_of(road, self._doubts):
            raise UnknownName(road)
        added = self._checked(fees, shut)
        others = {name: added[name] for name in added if name != road}
        rows = self._usable([name for name in shut if name != road])
        with_it = [(price_of(row, others), row[1].count(road)) for row in rows if road in row[1]]
        without_it = [price_of(row, others) for row in rows if road not in row[1]]
        if not with_it:
            return 0
        if not without_it:
            return None
        # From there on each row with the doubt is at least as dear as the best one without it.
        best = min(without_it)
        return max(0, max([-((price - best) // many) for price, many in with_it]))

    def _checked(self, fees, shut):
        """The dict of the fees, behind the checks of the fees and of the closed doubts."""
        added = {} if fees is None else fees
        for name in sorted(added):
            if name not in self._doubts:
                raise UnknownName(name)
        if not all([is_number(added[name]) for name in added]):
            raise BadFee("fees")
        for name in shut:
            if not is_one_of(name, self._doubts):
                raise UnknownName(name)
        return added

    def _usable(self, shut):
        """The rows whose lots have no closed doubt."""
        return [row for row in self._rows if not any([name in shut for name in row[1]])]

    def __iter__(self):
        return iter(self._rows)

    def __len__(self):
        return len(self._rows)

    def __bool__(self):
        return True

    def __eq__(self, other):
        return isinstance(other, OpenTable) and self._doubts == other._doubts and self._rows == other._rows

    def __repr__(self):
        return f"OpenTable({len(self._rows)} rows)"


def names_in(values):
    """The names in the lots of some values of Open."""
    return [name for value in values for _, lot in value for name in lot]


def open_table(net, begins, ends):
    """The table of a question of an Open net."""
    values = [list(table.values()) for table in (net.entries(), net.arcs(), not_none(begins))]
    doubts = [name for row in values for name in names_in(row)]
    return OpenTable(doubts, plain_answer(net, begins, ends))

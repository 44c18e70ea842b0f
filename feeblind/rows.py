"""Measures whose values are rows: several prices at once, and prices with lots of doubtful roads."""

from feeblind.errors import BadMeasure, BadName, TakenName
from feeblind.measures import Measure
from feeblind.names import is_name, is_number


def is_row(value, length):
    """Whether any value is a tuple of so many numbers from 0."""
    return isinstance(value, tuple) and len(value) == length and all([is_number(item) for item in value])


def are_rows(value, length):
    """Whether any value is a tuple of such rows."""
    return isinstance(value, tuple) and all([is_row(row, length) for row in value])


def is_at_most(one, other):
    """Whether a row is at most another one at every position."""
    for left, right in zip(one, other):
        if left > right:
            return False
    return True


def thin_rows(rows):
    """The rows that no other row is at most, ascending and once each; None for the empty list."""
    kept = []
    # A row that is at most another one does not stand behind it in ascending order.
    for row in sorted(rows):
        if not any_at_most(kept, row):
            kept.append(row)
    return tuple(kept) if kept else None


def any_at_most(rows, row):
    """Whether one of the rows is at most a row at every position."""
    # Of rows with two positions the last one decides, so it is asked first.
    for other in reversed(rows):
        if is_at_most(other, row):
            return True
    return False


def covers(one, other):
    """Whether a row of Open has no greater price than another one, and no name more often in its lot."""
    if one[0] > other[0]:
        return False
    for name in one[1]:
        if one[1].count(name) > other[1].count(name):
            return False
    return True


def thin_open(rows):
    """The rows that no other row covers, ascending and once each; None for the empty list."""
    # A row that covers another one has no greater price and no longer lot, so
    # with the lengths put in it does not stand behind it in ascending order.
    sized = [(price, len(lot), tuple(sorted(lot))) for price, lot in rows]
    kept = []
    for price, _, lot in sorted(sized):
        if not any_covers(kept, (price, lot)):
            kept.append((price, lot))
    return tuple(sorted(kept)) if kept else None


def any_covers(rows, row):
    """Whether one of the rows covers a row."""
    for other in rows:
        if covers(other, row):
            return True
    return False


class Trade(Measure):
    """Several prices at once: the rows of prices that no other row undercuts."""

    def __init__(self, *wishes):
        if not 2 <= len(wishes) <= 4:
            raise BadMeasure("many")
        for wish in wishes:
            if not is_name(wish):
                raise BadName(wish)
        for at, wish in enumerate(wishes):
            if wish in wishes[:at]:
                raise TakenName(wish)
        self._wishes = list(wishes)
        self.stay = ((0,) * len(wishes),)

    def wishes(self):
        """The list of the wishes."""
        return list(self._wishes)

    def best(self, one, other):
        """The rows of both, thinned."""
        if one is None:
            return other
        if other is None:
            return one
        return thin_rows(one + other)

    def then(self, one, other):
        """The sums of a row of one and a row of the other, thinned."""
        if one is None or other is None:
            return None
        sums = [tuple([left + right for left, right in zip(row, more)]) for row in one for more in other]
        return thin_rows(sums)

    def is_value(self, value):
        """Whether any value is a tuple of rows, thinned and ascending."""
        return are_rows(value, len(self._wishes)) and value == thin_rows(value)

    def no_worse(self, one, other):
        """Whether one is no worse than the other, of values or None."""
        return self.best(one, other) == one

    def __eq__(self, other):
        return isinstance(other, Trade) and self._wishes == other._wishes

    def __repr__(self):
        return f"Trade({', '.join(self._wishes)})"


def is_lot(value):
    """Whether any value is a tuple of names, in any order."""
    return isinstance(value, tuple) and all([is_name(item) for item in value])


def is_open_row(value):
    """Whether any value is a pair of a number from 0 and a lot."""
    return isinstance(value, tuple) and len(value) == 2 and is_number(value[0]) and is_lot(value[1])


class Open(Measure):
    """Prices with the lots of the doubtful roads that they need."""

    def __init__(self, wish):
        if not is_name(wish):
            raise BadName(wish)
        self.wish = wish
        self.stay = ((0, ()),)

    def best(self, one, other):
        """The rows of both, thinned."""
        if one is None:
            return other
        if other is None:
            return one
        return thin_open(one + other)

    def then(self, one, other):
        """The sums of a row of one and a row of the other, with their lots joined, thinned."""
        if one is None or other is None:
            return None
        return thin_open([(price + more, lot + others) for price, lot in one for more, others in other])

    def is_value(self, value):
        """Whether any value is a tuple of rows, thinned and ascending, with their lots in order."""
        if not isinstance(value, tuple) or not all([is_open_row(row) for row in value]):
            return False
        # Nothing is left of the empty tuple, and lots that are not in order are put in order.
        return value == thin_open(value)

    def no_worse(self, one, other):
        """Whether one is no worse than the other, of values or None."""
        return self.best(one, other) == one

    def __eq__(self, other):
        return isinstance(other, Open) and self.wish == other.wish

    def __repr__(self):
        return f"Open({self.wish})"

"""A stranger's measure: names, and two tables of them."""

from feeblind.errors import BadMeasure, BadTable
from feeblind.measures import Measure
from feeblind.names import is_name

MANY = 6


def is_listed(value, length):
    """Whether any value is a list or tuple of so many items."""
    return isinstance(value, (list, tuple)) and len(value) == length


def are_names(value):
    """Whether any value is a list or tuple of 1 to 6 different names."""
    if not isinstance(value, (list, tuple)) or not 1 <= len(value) <= MANY:
        return False
    return all([is_name(item) for item in value]) and len(set(value)) == len(value)


def is_one_of(value, names):
    """Whether any value is one of the names."""
    return isinstance(value, str) and value in names


def is_line(value, names):
    """Whether any value is a list or tuple with as many of the names as there are."""
    return is_listed(value, len(names)) and all([is_one_of(item, names) for item in value])


def is_table(value, names):
    """Whether any value is a square table of the names."""
    return is_listed(value, len(names)) and all([is_line(row, names) for row in value])


def copied(table):
    """A table as a new list of new lists."""
    return [list(row) for row in table]


class Told(Measure):
    """A measure that two tables tell; it may break the eight sentences."""

    def __init__(self, names, best, then, stay):
        if not are_names(names):
            raise BadMeasure("names")
        if not is_table(best, names):
            raise BadTable("best")
        if not is_table(then, names):
            raise BadTable("then")
        if not is_one_of(stay, names):
            raise BadMeasure("stay")
        self._names = list(names)
        self._bests = copied(best)
        self._thens = copied(then)
        self.stay = stay

    def names(self):
        """The list of the names."""
        return list(self._names)

    def tables(self):
        """The pair of the tables of best and then, as lists of lists."""
        return (copied(self._bests), copied(self._thens))

    def best(self, one, other):
        """What the first table tells."""
        if one is None:
            return other
        if other is None:
            return one
        return self._bests[self._names.index(one)][self._names.index(other)]

    def then(self, one, other):
        """What the second table tells."""
        if one is None or other is None:
            return None
        return self._thens[self._names.index(one)][self._names.index(other)]

    def is_value(self, value):
        """Whether any value is one of the names."""
        return is_one_of(value, self._names)

    def no_worse(self, one, other):
        """Whether one is no worse than the other, of values or None."""
        return self.best(one, other) == one

    def __eq__(self, other):
        return (isinstance(other, Told) and self._names == other._names and self._bests == other._bests
                and self._thens == other._thens and self.stay == other.stay)

    def __repr__(self):
        return f"Told({', '.join(self._names)})"

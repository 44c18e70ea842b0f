"""Measures that are made of other measures: several side by side, or one behind a price."""

from feeblind.dials import Dial
from feeblind.errors import BadMeasure, BadName
from feeblind.hours import Hours
from feeblind.measures import Measure, Price, Width
from feeblind.names import is_name, is_number
from feeblind.rows import Open, Trade


def items_or_none(items):
    """The tuple of a list of items, or None if all of them are None."""
    return None if all([item is None for item in items]) else tuple(items)


class Several(Measure):
    """Two to four measures side by side."""

    def __init__(self, *measures):
        if not 2 <= len(measures) <= 4:
            raise BadMeasure("many")
        for measure in measures:
            if not isinstance(measure, Measure) or isinstance(measure, Several):
                raise BadMeasure("inner")
        self._measures = list(measures)
        self.stay = tuple([measure.stay for measure in measures])

    def measures(self):
        """The list of the measures."""
        return list(self._measures)

    def best(self, one, other):
        """The best of each item."""
        if one is None:
            return other
        if other is None:
            return one
        return items_or_none([measure.best(left, right) for measure, left, right in zip(self._measures, one, other)])

    def then(self, one, other):
        """Each item joined; None if none of them is left."""
        if one is None or other is None:
            return None
        return items_or_none([measure.then(left, right) for measure, left, right in zip(self._measures, one, other)])

    def is_value(self, value):
        """Whether any value is a tuple of a value or None for each measure, not all None."""
        if not isinstance(value, tuple) or len(value) != len(self._measures):
            return False
        if all([item is None for item in value]):
            return False
        return all([item is None or measure.is_value(item) for measure, item in zip(self._measures, value)])

    def no_worse(self, one, other):
        """Whether one is no worse than the other, of values or None."""
        return self.best(one, other) == one

    def __eq__(self, other):
        return isinstance(other, Several) and self._measures == other._measures

    def __repr__(self):
        return f"Several({', '.join([repr(measure) for measure in self._measures])})"


class First(Measure):
    """A price that counts first, and an inner measure for equal prices."""

    def __init__(self, wish, inner):
        if not is_name(wish):
            raise BadName(wish)
        if not isinstance(inner, (Price, Width, Trade, Open, Dial, Hours)):
            raise BadMeasure("inner")
        self.wish = wish
        self.inner = inner
        self.stay = (0, inner.stay)

    def best(self, one, other):
        """The one with the lesser price; for equal prices the best of the inner values."""
        if one is None:
            return other
        if other is None:
            return one
        if one[0] != other[0]:
            return one if one[0] < other[0] else other
        return (one[0], self.inner.best(one[1], other[1]))

    def then(self, one, other):
        """The sum of the prices, and the inner values joined."""
        if one is None or other is None:
            return None
        return (one[0] + other[0], self.inner.then(one[1], other[1]))

    def is_value(self, value):
        """Whether any value is a pair of a number from 0 and a value of the inner measure."""
        if not isinstance(value, tuple) or len(value) != 2:
            return False
        return is_number(value[0]) and self.inner.is_value(value[1])

    def no_worse(self, one, other):
        """Whether one is no worse than the other, of values or None."""
        return self.best(one, other) == one

    def __eq__(self, other):
        return isinstance(other, First) and self.wish == other.wish and self.inner == other.inner

    def __repr__(self):
        return f"First({self.wish}, {self.inner!r})"

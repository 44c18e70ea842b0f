"""What a measure is, and the two plainest ones: prices and widths."""

from feeblind.errors import BadName
from feeblind.names import PLENTY, is_name, is_number


class Measure:
    """The base class of all measures; it is not called itself.

    A measure has values, the value stay, and the operations best and then.
    None stands for "no way" on both sides of them, and is no value.
    """

    def best(self, one, other):
        """The best of two values or None."""
        raise NotImplementedError("each measure has its own best")

    def then(self, one, other):
        """Two values or None, one behind the other."""
        raise NotImplementedError("each measure has its own then")

    def is_value(self, value):
        """Whether any value is a value of this measure."""
        raise NotImplementedError("each measure has its own values")

    def no_worse(self, one, other):
        """Whether one is no worse than the other, of values or None."""
        return self.best(one, other) == one

    def __eq__(self, other):
        return isinstance(other, Measure) and self.__class__.__name__ == other.__class__.__name__


class Price(Measure):
    """The sum of the prices for a wish; the least one is the best."""

    def __init__(self, wish):
        if not is_name(wish):
            raise BadName(wish)
        self.wish = wish
        self.stay = 0

    def best(self, one, other):
        """The least price."""
        if one is None:
            return other
        if other is None:
            return one
        return min(one, other)

    def then(self, one, other):
        """The sum of two prices."""
        if one is None or other is None:
            return None
        return one + other

    def is_value(self, value):
        """Whether any value is a number from 0."""
        return is_number(value)

    def no_worse(self, one, other):
        """Whether one is no worse than the other, of values or None."""
        return self.best(one, other) == one

    def __eq__(self, other):
        return isinstance(other, Price) and self.wish == other.wish

    def __repr__(self):
        return f"Price({self.wish})"


class Width(Measure):
    """The least width on the way; the greatest one is the best."""

    def __init__(self):
        self.stay = PLENTY

    def best(self, one, other):
        """The greatest width."""
        if one is None:
            return other
        if other is None:
            return one
        return max(one, other)

    def then(self, one, other):
        """The least width."""
        if one is None or other is None:
            return None
        return min(one, other)

    def is_value(self, value):
        """Whether any value is a number from 1 to 1000000000."""
        return is_number(value, 1, PLENTY)

    def no_worse(self, one, other):
        """Whether one is no worse than the other, of values or None."""
        return self.best(one, other) == one

    def __eq__(self, other):
        return isinstance(other, Width)

    def __repr__(self):
        return "Width()"

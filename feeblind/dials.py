"""The measure of a dial between two prices: lines that are read at a setting."""

from feeblind.errors import BadMeasure, BadName
from feeblind.measures import Measure
from feeblind.names import MOST, is_name, is_number
from feeblind.rows import are_rows, thin_rows


def never_alone(before, line, behind):
    """Whether a line is nowhere alone least beside two others, where b falls from one to the next."""
    # The line wins from where it meets the one before, and loses from where it
    # meets the one behind. Both settings are fractions with the differences of
    # b, which are above 0, as denominators; they are compared crosswise.
    wins = (line[0] - before[0]) * (line[1] - behind[1])
    loses = (behind[0] - line[0]) * (before[1] - line[1])
    return wins >= loses


def is_below_at(line, other, setting):
    """Whether a line is below another one at a whole setting."""
    return line[0] + line[1] * setting < other[0] + other[1] * setting


def lowest_lines(lines, top):
    """The lines that alone are least on a stretch from 0 to top, with b falling; None for the empty list."""
    if not lines:
        return None
    kept = []
    # A line that is at most another one in a and b is nowhere above it. What
    # is left has a rising and b falling, so a later line can only win later.
    for line in thin_rows(lines):
        while len(kept) > 1 and never_alone(kept[-2], kept[-1], line):
            kept.pop()
        if not kept or is_below_at(line, kept[-1], top):
            kept.append(line)
    return tuple(kept)


class Dial(Measure):
    """Two prices, of which the second one counts as often as a dial says, from 0 to top."""

    def __init__(self, wish, slope, top):
        if not is_name(wish):
            raise BadName(wish)
        if not is_name(slope):
            raise BadName(slope)
        if not is_number(top, 1, MOST):
            raise BadMeasure("top")
        self.wish = wish
        self.slope = slope
        self.top = top
        self.stay = ((0, 0),)

    def best(self, one, other):
        """The least lines of both."""
        if one is None:
            return other
        if other is None:
            return one
        return lowest_lines(one + other, self.top)

    def then(self, one, other):
        """The least sums of a line of one and a line of the other."""
        if one is None or other is None:
            return None
        return lowest_lines([(a + more, b + steeper) for a, b in one for more, steeper in other], self.top)

    def is_value(self, value):
        """Whether any value is a tuple of the least lines, with b falling."""
        return are_rows(value, 2) and value == lowest_lines(value, self.top)

    def no_worse(self, one, other):
        """Whether one is no worse than the other, of values or None."""
        return self.best(one, other) == one

    def __eq__(self, other):
        return (isinstance(other, Dial) and self.wish == other.wish
                and self.slope == other.slope and self.top == other.top)

    def __repr__(self):
        return f"Dial({self.wish}, {self.slope}, {self.top})"

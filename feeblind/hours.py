"""The measure of the hours of a day: the earliest times at which one is through."""

from feeblind.errors import BadMeasure
from feeblind.measures import Measure
from feeblind.names import is_number

LONGEST_DAY = 96


def can_enter(windows, t):
    """Whether one of the windows holds the time t of a day, or there are none to keep to."""
    if windows is None:
        return True
    return any([first <= t < behind for first, behind in windows])


def hours_of(day, windows, ticks):
    """The value of windows, None or a list, and ticks; None if no time of the day is open."""
    times = [t for t in range(day) if can_enter(windows, t)]
    if not times:
        return None
    # Behind the last open time of a day one waits for the first one of the next day.
    entered = times[0] + day
    through = []
    for t in reversed(range(day)):
        if can_enter(windows, t):
            entered = t
        through.append(entered + ticks)
    return tuple(reversed(through))


def read_hours(value, t):
    """The time at which one is through if one begins at any time t."""
    days, hour = divmod(t, len(value))
    return value[hour] + days * len(value)


def latest_begin(value, end):
    """The greatest time, which may be below 0, from which one is through at the end."""
    day = len(value)
    return max([hour + (end - through) // day * day for hour, through in enumerate(value)])


def never_falls(value):
    """Whether no number of a tuple is less than the one ahead of it."""
    return all([left <= right for left, right in zip(value, value[1:])])


class Hours(Measure):
    """For each time of a day the earliest time at which one is through."""

    def __init__(self, day):
        if not is_number(day, 1, LONGEST_DAY):
            raise BadMeasure("day")
        self.day = day
        self.stay = tuple(range(day))

    def best(self, one, other):
        """The earliest time for each begin."""
        if one is None:
            return other
        if other is None:
            return one
        return tuple([min(left, right) for left, right in zip(one, other)])

    def then(self, one, other):
        """The other one begins when one is through."""
        if one is None or other is None:
            return None
        return tuple([read_hours(other, through) for through in one])

    def is_value(self, value):
        """Whether any value is a tuple of a time for each time of the day, as [8] wants them."""
        if not isinstance(value, tuple) or len(value) != self.day:
            return False
        if not all([is_number(through, t) for t, through in enumerate(value)]):
            return False
        return never_falls(value) and value[-1] <= value[0] + self.day

    def no_worse(self, one, other):
        """Whether one is no worse than the other, of values or None."""
        return self.best(one, other) == one

    def __eq__(self, other):
        return isinstance(other, Hours) and self.day == other.day

    def __repr__(self):
        return f"Hours({self.day})"

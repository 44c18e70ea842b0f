"""Roads, and the rules of the turns between them."""

from feeblind.errors import BadFee, BadName, BadPair
from feeblind.hours import LONGEST_DAY, can_enter
from feeblind.names import MOST, is_name, is_number

LONGEST_TICKS = 960


def are_prices(value):
    """Whether any value is None or a dict from names to prices."""
    if value is None:
        return True
    if not isinstance(value, dict):
        return False
    return all([is_name(wish) and is_number(price, 0, MOST) for wish, price in value.items()])


def are_wheels(value):
    """Whether any value is None or a list of names."""
    if value is None:
        return True
    return isinstance(value, (list, tuple)) and all([is_name(wheel) for wheel in value])


def is_window(value, least):
    """Whether any value is a pair of numbers, from least on, of which the first is less than the one behind."""
    if not isinstance(value, tuple) or len(value) != 2:
        return False
    first, behind = value
    return is_number(first, least) and is_number(behind, first + 1, LONGEST_DAY)


def are_windows(value):
    """Whether any value is None or a list of windows, each of which begins above the end of the one ahead."""
    if value is None:
        return True
    if not isinstance(value, (list, tuple)):
        return False
    least = 0
    for window in value:
        if not is_window(window, least):
            return False
        least = window[1] + 1
    return True


def is_mark(value):
    """Whether any value is None or a name."""
    return value is None or is_name(value)


def prices_kept(prices):
    """The dict of the prices that are not 0, ascending by wishes."""
    if prices is None:
        return {}
    return {wish: prices[wish] for wish in sorted(prices) if prices[wish] != 0}


def wheels_kept(wheels):
    """The ascending list of the wheels, or None."""
    return None if wheels is None else sorted(set(wheels))


def list_or_none(value):
    """A list with the same items, or None."""
    return None if value is None else list(value)


class Road:
    """A one-way road from its tail to its head, with its fees."""

    def __init__(self, name, tail, head, *, prices=None, width=1, ticks=1, mark=None,
                 windows=None, wheels=None, doubtful=False):
        for value in (name, tail, head):
            if not is_name(value):
                raise BadName(value)
        fits = {
            "prices": are_prices(prices),
            "width": is_number(width, 1, MOST),
            "ticks": is_number(ticks, 0, LONGEST_TICKS),
            "mark": is_mark(mark),
            "windows": are_windows(windows),
            "wheels": are_wheels(wheels),
            "doubtful": isinstance(doubtful, bool),
        }
        for what, fit in fits.items():
            if not fit:
                raise BadFee(what)
        self.name = name
        self.tail = tail
        self.head = head
        self.width = width
        self.ticks = ticks
        self.mark = mark
        self.doubtful = doubtful
        self._prices = prices_kept(prices)
        self._windows = list_or_none(windows)
        self._wheels = wheels_kept(wheels)

    def price(self, wish):
        """The price for a wish, 0 without one."""
        return self._prices.get(wish, 0)

    def prices(self):
        """The dict of the prices that are not 0, ascending."""
        return dict(self._prices)

    def windows(self):
        """The list of the windows, or None if the road can be entered at all times."""
        return list_or_none(self._windows)

    def wheels(self):
        """The ascending list of the wheels that may use the road, or None if all may."""
        return list_or_none(self._wheels)

    def lets(self, wheel):
        """Whether a wheel may use the road."""
        return self._wheels is None or wheel in self._wheels

    def open_at(self, t, day):
        """Whether the road can be entered at the time t modulo day."""
        return can_enter(self._windows, t % day)

    def __eq__(self, other):
        return (isinstance(other, Road) and self.name == other.name and self.tail == other.tail
                and self.head == other.head and self.width == other.width and self.ticks == other.ticks
                and self.mark == other.mark and self.doubtful == other.doubtful
                and self._prices == other._prices and self._windows == other._windows
                and self._wheels == other._wheels)

    def __repr__(self):
        return f"Road({self.name}, {self.tail} to {self.head})"


class Rule:
    """What a turn from one road into another one adds."""

    def __init__(self, source, target, *, prices=None, ticks=0, wheels=None):
        for value in (source, target):
            if not is_name(value):
                raise BadName(value)
        if source == target:
            raise BadPair(source, target)
        if not are_prices(prices):
            raise BadFee("prices")
        if not is_number(ticks, 0, LONGEST_TICKS):
            raise BadFee("ticks")
        if not are_wheels(wheels):
            raise BadFee("wheels")
        self.source = source
        self.target = target
        self.ticks = ticks
        self._prices = prices_kept(prices)
        self._wheels = wheels_kept(wheels)

    @property
    def empty(self):
        """Whether the rule means the same as no rule."""
        return not self._prices and self.ticks == 0 and self._wheels is None

    def price(self, wish):
        """The price for a wish, 0 without one."""
        return self._prices.get(wish, 0)

    def prices(self):
        """The dict of the prices that are not 0, ascending."""
        return dict(self._prices)

    def wheels(self):
        """The ascending list of the wheels that may turn, or None if all may."""
        return list_or_none(self._wheels)

    def lets(self, wheel):
        """Whether a wheel may turn."""
        return self._wheels is None or wheel in self._wheels

    def __eq__(self, other):
        return (isinstance(other, Rule) and self.source == other.source and self.target == other.target
                and self.ticks == other.ticks and self._prices == other._prices and self._wheels == other._wheels)

    def __repr__(self):
        return f"Rule({self.source} to {self.target})"

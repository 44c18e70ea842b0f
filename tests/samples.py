"""Measures of the package with many of their values, made by the plain ways and not by the package."""

from random import Random

from feeblind.dials import Dial
from feeblind.measures import Price, Width
from feeblind.rows import Open, Trade
from tests.oracles import lowest, thinned, thinned_open

# The same seed gives the same values on each run.
SEED = 20


def some_rows(random, length, most, many):
    """A list of so many rows of numbers from 0 to most."""
    return [tuple(random.randint(0, most) for _ in range(length)) for _ in range(many)]


def some_open_rows(random, many):
    """A list of so many rows of Open, with lots in any order and names that come twice."""
    return [(random.randint(0, 4), tuple(random.choice("abc") for _ in range(random.randint(0, 3)))) for _ in range(many)]


def distinct(values):
    """The values without those that come twice, in their order."""
    return [value for at, value in enumerate(values) if value not in values[:at]]


def trade_values(length):
    """Values of a Trade of so many wishes."""
    random = Random(SEED + length)
    one = [((0,) * length,), ((1,) * length,), ((0,) * (length - 1) + (9,), (9,) + (0,) * (length - 1))]
    return distinct(one + [thinned(some_rows(random, length, 5, random.randint(1, 5))) for _ in range(8)])


def open_values():
    """Values of Open."""
    random = Random(SEED)
    one = [((0, ()),), ((3, ()),), ((0, ("a",)), (3, ())), ((1, ("a", "a")), (2, ("a",))), ((2, ("a",)), (2, ("b",)))]
    return distinct(one + [thinned_open(some_open_rows(random, random.randint(1, 5))) for _ in range(8)])


def dial_values(top):
    """Values of a Dial with this top."""
    random = Random(SEED + top)
    one = [((0, 0),), ((0, 5), (3, 0)), ((4, 1), (5, 0)), ((7, 0),), ((0, 7),)]
    one = [lowest(list(lines), top) for lines in one]
    return distinct(one + [lowest(some_rows(random, 2, 9, random.randint(1, 6)), top) for _ in range(8)])


def first_samples():
    """Pairs of a measure and a list of its values, for the measures without hours and inner ones."""
    return [
        (Price("cost"), [0, 1, 2, 3, 5, 8, 1000000, 10000000000]),
        (Width(), [1, 2, 3, 5, 8, 999999999, 1000000000]),
        (Trade("cost", "time"), trade_values(2)),
        (Trade("cost", "time", "risk"), trade_values(3)),
        (Trade("cost", "time", "risk", "toll"), trade_values(4)),
        (Open("cost"), open_values()),
        (Dial("cost", "toll", 1), dial_values(1)),
        (Dial("cost", "toll", 3), dial_values(3)),
        (Dial("cost", "cost", 1000000), dial_values(1000000)),
    ]


def samples():
    """Pairs of a measure and a list of its values, for all measures."""
    return first_samples()

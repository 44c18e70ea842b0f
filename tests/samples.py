"""Measures of the package with many of their values, made by the plain ways and not by the package."""

from random import Random

from feeblind.dials import Dial
from feeblind.hours import Hours
from feeblind.joint import First, Several
from feeblind.measures import Price, Width
from feeblind.rows import Open, Trade
from feeblind.told import Told
from tests.oracles import lowest, thinned, thinned_open, walked

# The same seed gives the same values on each run.
SEED = 20


def some_rows(random, length, most, many):
    """A list of so many rows of numbers from 0 to most."""
    return [tuple(random.randint(0, most) for _ in range(length)) for _ in range(many)]


def some_open_rows(random, many):
    """A list of so many rows of Open, with lots in any order and names that come twice."""
    return [(random.randint(0, 4), tuple(random.choice("abc") for _ in range(random.randint(0, 3)))) for _ in range(many)]


def distinct(values):
    """The values without those that come twice, in their order."""
    return [value for at, value in enumerate(values) if value not in values[:at]]


def trade_values(length):
    """Values of a Trade of so many wishes."""
    random = Random(SEED + length)
    one = [((0,) * length,), ((1,) * length,), ((0,) * (length - 1) + (9,), (9,) + (0,) * (length - 1))]
    return distinct(one + [thinned(some_rows(random, length, 5, random.randint(1, 5))) for _ in range(8)])


def open_values():
    """Values of Open."""
    random = Random(SEED)
    one = [((0, ()),), ((3, ()),), ((0, ("a",)), (3, ())), ((1, ("a", "a")), (2, ("a",))), ((2, ("a",)), (2, ("b",)))]
    return distinct(one + [thinned_open(some_open_rows(random, random.randint(1, 5))) for _ in range(8)])


def dial_values(top):
    """Values of a Dial with this top."""
    random = Random(SEED + top)
    one = [((0, 0),), ((0, 5), (3, 0)), ((4, 1), (5, 0)), ((7, 0),), ((0, 7),)]
    one = [lowest(list(lines), top) for lines in one]
    return distinct(one + [lowest(some_rows(random, 2, 9, random.randint(1, 6)), top) for _ in range(8)])


def hours_values(day):
    """Values of Hours of this day."""
    random = Random(SEED + day)
    found = [tuple(range(day)), tuple(range(7, day + 7)), (day,) * day]
    for _ in range(5):
        low = random.randint(0, 5)
        value = [low]
        for t in range(1, day):
            value.append(min(low + day, max(t, value[-1] + random.choice((0, 0, 1, 3)))))
        found.append(tuple(value))
    for _ in range(4):
        first = random.randint(0, day - 1)
        windows, ticks = [(first, random.randint(first + 1, 96))], random.choice((0, 1, 5, 960))
        found.append(tuple(walked(day, windows, ticks, t) for t in range(day)))
    return distinct(found)


def single_samples():
    """Pairs of a measure and a list of its values, for the measures that hold no other ones."""
    return [
        (Price("cost"), [0, 1, 2, 3, 5, 8, 1000000, 10000000000]),
        (Width(), [1, 2, 3, 5, 8, 999999999, 1000000000]),
        (Trade("cost", "time"), trade_values(2)),
        (Trade("cost", "time", "risk"), trade_values(3)),
        (Trade("cost", "time", "risk", "toll"), trade_values(4)),
        (Open("cost"), open_values()),
        (Dial("cost", "toll", 1), dial_values(1)),
        (Dial("cost", "toll", 3), dial_values(3)),
        (Dial("cost", "cost", 1000000), dial_values(1000000)),
        (Hours(1), hours_values(1)),
        (Hours(2), hours_values(2)),
        (Hours(6), hours_values(6)),
        (Hours(96), hours_values(96)[:6]),
    ]


def capped(names):
    """A stranger's measure that adds up to a cap, with the least as the best; it keeps all sentences."""
    many = range(len(names))
    best = [[names[min(a, b)] for b in many] for a in many]
    then = [[names[min(a + b, len(names) - 1)] for b in many] for a in many]
    return Told(names, best, then, names[0])


def narrow(names):
    """A stranger's measure of widths, of which the last one is the widest; it keeps all sentences."""
    many = range(len(names))
    best = [[names[max(a, b)] for b in many] for a in many]
    then = [[names[min(a, b)] for b in many] for a in many]
    return Told(names, best, then, names[-1])


def told_samples():
    """Pairs of a Told measure that keeps the sentences and the list of its values."""
    made = [capped(["a"]), capped(["zero", "one", "two"]), capped(list("fedcba")), narrow(["low", "mid", "high"])]
    return [(measure, measure.names()) for measure in made]


def first_samples():
    """Pairs of a First and a list of its values, for each inner measure."""
    random = Random(SEED)
    found = []
    for inner, values in single_samples():
        some = [(random.randint(0, 2), random.choice(values)) for _ in range(8)]
        found.append((First("toll", inner), distinct([(0, inner.stay), (1, values[0]), (1, values[-1])] + some)))
    return found


def several_values(parts):
    """Values of a Several from the lists of values of its measures, with None on some sides."""
    random = Random(SEED + len(parts))
    found = []
    for at, values in enumerate(parts):
        found.append((None,) * at + (values[-1],) + (None,) * (len(parts) - at - 1))
    found.append(tuple(values[0] for values in parts))
    found += [tuple(random.choice(values + [None, None]) for values in parts) for _ in range(12)]
    return distinct([value for value in found if value != (None,) * len(parts)])


def several_samples():
    """Pairs of a Several and a list of its values."""
    single, told, first = single_samples(), told_samples(), first_samples()
    found = []
    for chosen in (
        [single[0], single[1]], [single[2], single[11]], [single[5], told[1]], [single[0], single[0]],
        [single[7], first[1], told[3]], [single[1], single[9], single[0], first[2]],
    ):
        measure = Several(*[measure for measure, _ in chosen])
        found.append((measure, several_values([values for _, values in chosen])))
    return found


def samples():
    """Pairs of a measure and a list of its values, for all measures; no two of the measures are equal."""
    return single_samples() + told_samples() + first_samples() + several_samples()

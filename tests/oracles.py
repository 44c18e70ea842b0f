"""Plain and slow ways to what the package tells, and what tests share."""

from collections import Counter
from fractions import Fraction
from itertools import product

from feeblind.measures import Price

# Values of many kinds; as a parameter each of them may be "any value".
ODD = [
    None, True, False, 0, 1, -1, 7, 1000001, "", "a", "car", "abcdefgh", "abcdefghi", "A", "aB", "a1", "a_b", "a b",
    " a", "a\n", "a-b", "\u00e4", "\u00df", "\u0101", (), (0,), (1, 2), ("a",), ("a", "b"), (True,), (None,), ((),),
    ((0,),), ((0, 0),), ((0, ()),), ((0, ("a",)),), [], [0], ["a"], ["a", "b"], [[]], [[0, 0]], [(0, 0)], {}, {"a": 1},
    {1: "a"}, {"a": None}, (("a", [1]), {"b": (2, [3])}), Price("cost"), [Price("cost")], (Price("cost"),),
]


def thinned(rows):
    """The rows that no other one is at most, by comparing each with each."""
    def beaten(row):
        return any(other != row and all(a <= b for a, b in zip(other, row)) for other in rows)
    return tuple(sorted({row for row in rows if not beaten(row)})) or None


def covering(one, other):
    """Whether a row of Open covers another one, by counting each name."""
    few, many = Counter(one[1]), Counter(other[1])
    return one[0] <= other[0] and all(few[name] <= many[name] for name in few)


def thinned_open(rows):
    """The rows of Open that no other one covers, by comparing each with each."""
    ordered = {(price, tuple(sorted(lot))) for price, lot in rows}
    left = [row for row in ordered if not any(other != row and covering(other, row) for other in ordered)]
    return tuple(sorted(left)) or None


def read(lines, setting):
    """The least reading of lines at a setting, whole or not."""
    return min(a + b * setting for a, b in lines)


def meetings(lines, top):
    """0, top, and all settings between them at which two lines meet, ascending."""
    found = {Fraction(0), Fraction(top)}
    for a, b in lines:
        for c, d in lines:
            if b != d and 0 < Fraction(c - a, b - d) < top:
                found.add(Fraction(c - a, b - d))
    return sorted(found)


def lowest(lines, top):
    """The lines that alone are least somewhere between two meetings, with b falling."""
    if not lines:
        return None
    different = sorted(set(lines))
    settings = meetings(different, top)
    found = set()
    for low, high in zip(settings, settings[1:]):
        middle = (low + high) / 2
        least = [line for line in different if line[0] + line[1] * middle == read(different, middle)]
        assert len(least) == 1
        found.add(least[0])
    return tuple(sorted(found, key=lambda line: -line[1]))


def walked(day, windows, ticks, t):
    """The time at which one is through if one comes at t, going on time by time; None if the road never opens."""
    for time in range(t, t + day):
        if windows is None or any(first <= time % day < behind for first, behind in windows):
            return time + ticks
    return None


def sides(measure, sentence, a, b, c):
    """Both sides of a sentence of [7], written out as they stand there."""
    best, then, stay = measure.best, measure.then, measure.stay
    return {
        "right_unit": lambda: (then(a, stay), a),
        "left_unit": lambda: (then(stay, a), a),
        "order": lambda: (best(a, b), best(b, a)),
        "grouping": lambda: (best(best(a, b), c), best(a, best(b, c))),
        "joining": lambda: (then(then(a, b), c), then(a, then(b, c))),
        "ring": lambda: (best(stay, a), stay),
        "left_sharing": lambda: (then(a, best(b, c)), best(then(a, b), then(a, c))),
        "right_sharing": lambda: (then(best(a, b), c), best(then(a, c), then(b, c))),
    }[sentence]()


EIGHT = ["right_unit", "left_unit", "order", "grouping", "joining", "ring", "left_sharing", "right_sharing"]
LETTERS = {"right_unit": 1, "left_unit": 1, "order": 2, "ring": 1}


def first_fault(measure):
    """The first sentence that a Told measure breaks with its first case, or None, by going through all names."""
    for sentence in EIGHT:
        many = LETTERS.get(sentence, 3)
        for case in product(measure.names(), repeat=many):
            filled = case + ("",) * (3 - many)
            left, right = sides(measure, sentence, *filled)
            if left != right:
                return (sentence, *filled)
    return None


def bent(value):
    """The value with one part bent, for each of its parts: of another kind, below 0, twice, or no name."""
    if isinstance(value, bool) or value is None:
        return [()]
    if isinstance(value, int):
        return [-1, True, False, None, str(value), (value,)]
    if isinstance(value, str):
        return [value.upper(), "", value + "1", "abcdefghi", None, 0, True]
    found = [list(value), None, 7, "a", dict(enumerate(value))]
    if value and not isinstance(value[0], str):
        found.append(value + value)
    for at, part in enumerate(value):
        found.extend(value[:at] + (worse,) + value[at + 1:] for worse in bent(part))
    return found

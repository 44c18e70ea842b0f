"""Charts, nets and questions for tests, and plain ways to texts, ways and answers that do not ask the package."""

import re
from itertools import permutations
from random import Random

from feeblind.charts import Chart
from feeblind.dials import Dial
from feeblind.errors import ChartError
from feeblind.hours import Hours
from feeblind.joint import First, Several
from feeblind.measures import Price, Width
from feeblind.nets import Net
from feeblind.roads import Road, Rule
from feeblind.rows import Open, Trade
from feeblind.shapes import Shape
from feeblind.told import Told
from tests.samples import capped, narrow, samples

EXAMPLE = (
    "road ab a b\nprice cost 3\nroad ac a c\nprice cost 1\ndoubtful\nroad bd b d\nprice cost 2\n"
    "road cb c b\nprice cost 1\ndoubtful\nroad cd c d\nprice cost 5\nend\n"
)
WHEELS = ["bus", "car", "van"]
WISHES = ["cost", "time", "toll"]


def some_windows(random):
    """None, or a list of windows, which may be empty."""
    if random.random() < 0.6:
        return None
    marks = sorted(random.sample(range(12), random.choice((0, 2, 2, 4))))
    windows = [tuple(marks[at:at + 2]) for at in range(0, len(marks), 2)]
    return windows if all(one[1] < other[0] for one, other in zip(windows, windows[1:])) else windows[:1]


def some_prices(random):
    """A dict of prices, of which some are 0, in any order."""
    wishes = random.sample(WISHES, random.randint(0, 3))
    return {wish: random.choice((0, 1, 2, 3, 9)) for wish in wishes}


def some_wheels(random):
    """None or a list of wheels, in any order."""
    return random.choice((None, None, None, ["car"], ["van", "car"], ["car", "car", "bus"], [], ["bus"]))


def some_road(random, name, tail, head):
    """A road with some fees."""
    return Road(
        name, tail, head, prices=some_prices(random), width=random.choice((1, 1, 2, 5, 9)),
        ticks=random.choice((0, 1, 1, 2, 7)), mark=random.choice((None, "zero", "one", "two", "low", "mid", "other")),
        windows=some_windows(random), wheels=some_wheels(random), doubtful=random.random() < 0.4,
    )


def some_rule(random, source, target):
    """A rule with some fees, which may be empty."""
    ticks = random.choice((0, 0, 1, 3))
    return Rule(source, target, prices=some_prices(random), ticks=ticks, wheels=some_wheels(random))


def turns_by_hand(roads):
    """The ascending list of the turns of roads, by trying all pairs."""
    return sorted((u.name, v.name) for u in roads for v in roads if u.name != v.name and u.head == v.tail)


def some_names(random, many):
    """So many different names of roads, in any order."""
    names = [one + other for one in "abcdefghijkl" for other in "abcdefghijkl"]
    return random.sample(names, many)


def some_chart(random, most=7, places="abcd"):
    """A chart of at most so many roads, with rules for some of its turns."""
    names = some_names(random, random.randint(0, most))
    roads = [some_road(random, name, random.choice(places), random.choice(places)) for name in names]
    turns = turns_by_hand(roads)
    rules = [some_rule(random, *turn) for turn in random.sample(turns, len(turns) // 2)]
    return Chart(roads, rules)


def some_charts(seed, many, most=7, places="abcd"):
    """So many charts; the same seed gives the same ones."""
    random = Random(seed)
    return [some_chart(random, most, places) for _ in range(many)]


# Texts.

def fee_lines(prices, ticks, usual, wheels):
    """The lines of prices, of ticks other than the usual ones, and of wheels."""
    lines = [f"price {wish} {prices[wish]}" for wish in sorted(prices) if prices[wish]]
    ticked = [f"ticks {ticks}"] if ticks != usual else []
    wheeled = [" ".join(["wheels", *sorted(set(wheels))])] if wheels is not None else []
    return lines, ticked, wheeled


def written(roads, rules):
    """The text of a chart of these roads and rules, as [6] says."""
    lines = []
    for road in sorted(roads, key=lambda road: road.name):
        prices, ticked, wheeled = fee_lines(road.prices(), road.ticks, 1, road.wheels())
        lines += [f"road {road.name} {road.tail} {road.head}", *prices]
        lines += [f"width {road.width}"] if road.width != 1 else []
        lines += ticked
        lines += [f"mark {road.mark}"] if road.mark is not None else []
        if road.windows() == []:
            lines.append("never")
        lines += [f"window {first} {behind}" for first, behind in road.windows() or []]
        lines += wheeled
        lines += ["doubtful"] if road.doubtful else []
    for rule in sorted(rules, key=lambda rule: (rule.source, rule.target)):
        if not rule.empty:
            prices, ticked, wheeled = fee_lines(rule.prices(), rule.ticks, 0, rule.wheels())
            lines += [f"turn {rule.source} {rule.target}", *prices, *ticked, *wheeled]
    return "".join(line + "\n" for line in lines + ["end"])


def guessed_block(words, lines):
    """The road or the rule that a block may be meant to say; any error of Python or the package if it says none."""
    fees = {}
    for line in lines:
        word, *rest = line.split()
        if word == "price":
            fees.setdefault("prices", {})[rest[0]] = int(rest[1][:20])
        elif word == "window":
            fees.setdefault("windows", []).append((int(rest[0][:20]), int(rest[1][:20])))
        elif word == "wheels":
            fees["wheels"] = rest
        elif word == "never":
            fees["windows"] = []
        elif word == "doubtful":
            fees["doubtful"] = True
        elif word == "mark":
            fees["mark"] = rest[0]
        elif word in ("width", "ticks"):
            fees[word] = int(rest[0][:20])
    return Road(*words[1:], **fees) if words[0] == "road" else Rule(*words[1:], **fees)


def is_text(text):
    """Whether a text is the text of a chart: what it may be meant to say, written again, is the same text."""
    blocks = re.findall(r"(?m)^(road|turn)(.*)\n((?:(?!road |turn |end$).*\n)*)", text)
    try:
        made = [guessed_block([word, *rest.split()], inner.splitlines()) for word, rest, inner in blocks]
        roads = [one for one in made if isinstance(one, Road)]
        rules = [one for one in made if isinstance(one, Rule)]
        turns = turns_by_hand(roads)
        fits = len(roads) <= 120 and len(turns) <= 600 and len({road.name for road in roads}) == len(roads)
        pairs = [(rule.source, rule.target) for rule in rules]
        fits = fits and all(pair in turns for pair in pairs) and len(set(pairs)) == len(pairs)
        return fits and written(roads, rules) == text
    except (ChartError, ValueError, IndexError, TypeError):
        return False


def first_bad_line(text):
    """The line of BadText that reading a text raises, or None: the first one behind which no text can go on."""
    *lines, behind = text.split("\n")
    for at in range(len(lines)):
        begun = "".join(line + "\n" for line in lines[:at + 1])
        # Where a text can go on at all, it can with one of these.
        if not any(is_text(begun + more) for more in ("", "end\n", "wheels\nend\n")):
            return at
    return None if behind == "" and is_text(text) else len(lines)


# Ways and answers.

def all_simple_ways(roads, turns, source, target):
    """The ascending list of all simple ways, by trying all rows of inner roads."""
    if source == target:
        return [(source,)]
    known = set(turns)
    others = [road for road in roads if road not in (source, target)]
    found = []
    for many in range(len(others) + 1):
        for inner in permutations(others, many):
            way = (source, *inner, target)
            if all(turn in known for turn in zip(way, way[1:])):
                found.append(way)
    return sorted(found)


def joined(measure, values):
    """Values joined by then from the left, None if one is None."""
    if None in values:
        return None
    result = values[0]
    for value in values[1:]:
        result = measure.then(result, value)
    return result


def folded(measure, values):
    """Values folded by best from the left, with None as nothing; None without any."""
    left = [value for value in values if value is not None]
    result = left[0] if left else None
    for value in left[1:]:
        result = measure.best(result, value)
    return result


def worth_by_hand(net, way, *begin):
    """The worth of a way, or with a begin its worth from it."""
    arcs = net.arcs()
    values = [*begin, *[arcs.get(turn) for turn in zip(way, way[1:])]]
    return joined(net.measure, values) if values else net.measure.stay


class Ways:
    """All simple ways of a shape, listed once."""

    def __init__(self, shape):
        self.shape = shape
        self.found = {}

    def between(self, source, target):
        """All simple ways from a road to a road."""
        if (source, target) not in self.found:
            ways = all_simple_ways(self.shape.roads(), self.shape.turns(), source, target)
            self.found[(source, target)] = ways
        return self.found[(source, target)]

    def answering(self, begins, ends):
        """All simple ways that answer a question."""
        pairs = [(begin, end) for begin in begins if begins[begin] is not None for end in set(ends)]
        return sorted(way for pair in pairs for way in self.between(*pair))


def plain_between_by_hand(net, ways, source, target):
    """D, by going through all simple ways."""
    return folded(net.measure, [worth_by_hand(net, way) for way in ways.between(source, target)])


def plain_by_hand(net, ways, begins, ends):
    """The plain answer, by going through all simple ways."""
    answers = ways.answering(begins, ends)
    return folded(net.measure, [worth_by_hand(net, way, begins[way[0]]) for way in answers])


# Nets and questions.

def some_shape(random, most=6, least=0):
    """A shape of at most so many roads."""
    roads = sorted(some_names(random, random.randint(least, most)))
    pairs = [(u, v) for u in roads for v in roads if u != v]
    return Shape(roads, random.sample(pairs, min(len(pairs), random.randint(0, 2 * len(roads) + 1))))


def some_net(random, shape, measure, values):
    """A net of a shape with some values of a measure, some of them None."""
    choice = list(values) + [None]
    entries = {road: random.choice(choice) for road in shape.roads()}
    return Net(shape, measure, entries, {turn: random.choice(choice) for turn in shape.turns()})


def some_question(random, net, values):
    """Begins and ends for a net; some begins are None, and some ends come twice."""
    roads = net.shape.roads()
    if not roads:
        return {}, []
    chosen = random.sample(roads, random.randint(0, min(3, len(roads))))
    begins = {road: random.choice(list(values) + [None]) for road in chosen}
    return begins, [random.choice(roads) for _ in range(random.randint(0, 3))]


def bad_told(random):
    """A Told measure of up to three names with any tables, which mostly breaks sentences."""
    names = ["o", "p", "q"][:random.randint(1, 3)]
    tables = [[[random.choice(names) for _ in names] for _ in names] for _ in range(2)]
    return Told(names, *tables, random.choice(names))


def chart_measures():
    """Measures of each kind, in which roads of the charts here have values."""
    return [
        Price("cost"), Price("none"), Width(), Trade("cost", "time"), Trade("time", "cost", "toll"), Open("cost"),
        Dial("cost", "toll", 3), Hours(5), Hours(24), capped(["zero", "one", "two"]), narrow(["low", "mid", "high"]),
        Several(Price("cost"), Width()), Several(Hours(7), capped(["zero", "one"]), First("toll", Open("cost"))),
        First("cost", Width()), First("toll", Trade("cost", "time")), First("cost", Hours(6)), First("time", Price("cost")),
        First("time", Dial("cost", "toll", 2)), First("toll", Open("time")),
    ]


def small_samples():
    """Pairs of a measure and some of its values, one for each kind of measure, with values that stay small."""
    kept = []
    seen = set()
    for measure, values in samples():
        kind = repr(measure).replace("1000000", "")
        if kind not in seen and "96" not in kind:
            seen.add(kind)
            kept.append((measure, [value for value in values if value != 10000000000][:7]))
    return kept

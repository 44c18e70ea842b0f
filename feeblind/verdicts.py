"""The verdicts of the judges. Each one tells by taken whether the judge takes what it saw."""


class MeasureTaken:
    """The measure keeps all eight sentences."""

    def __init__(self):
        self.taken = True

    def __eq__(self, other):
        return isinstance(other, MeasureTaken)


class MeasureRefused:
    """The first sentence that a measure breaks, with its first failing case."""

    def __init__(self, sentence, one, two, three):
        self.taken = False
        self.sentence = sentence
        self.one = one
        self.two = two
        self.three = three

    def __eq__(self, other):
        return (isinstance(other, MeasureRefused) and self.sentence == other.sentence
                and self.one == other.one and self.two == other.two and self.three == other.three)


class PlanTaken:
    """The plan has all low pairs: how many, and how many others."""

    def __init__(self, needed, spare):
        self.taken = True
        self.needed = needed
        self.spare = spare

    def __eq__(self, other):
        return isinstance(other, PlanTaken) and self.needed == other.needed and self.spare == other.spare


class PlanRefused:
    """The first low pair that a plan lacks, with a low way for it."""

    def __init__(self, source, target, way):
        self.taken = False
        self.source = source
        self.target = target
        self.way = way

    def __eq__(self, other):
        return (isinstance(other, PlanRefused) and self.source == other.source
                and self.target == other.target and self.way == other.way)


class HubsTaken:
    """The hubs are on all simple ways: how many rows they have."""

    def __init__(self, size):
        self.taken = True
        self.size = size

    def __eq__(self, other):
        return isinstance(other, HubsTaken) and self.size == other.size


class HubsRefused:
    """The first pair of roads with a simple way on which there is no shared hub."""

    def __init__(self, source, target, way):
        self.taken = False
        self.source = source
        self.target = target
        self.way = way

    def __eq__(self, other):
        return (isinstance(other, HubsRefused) and self.source == other.source
                and self.target == other.target and self.way == other.way)


class BoundsTaken:
    """The bounds are nowhere above the price to the ends."""

    def __init__(self):
        self.taken = True

    def __eq__(self, other):
        return isinstance(other, BoundsTaken)


class BoundsRefused:
    """The first end or turn at which bounds fail; target is None for an end."""

    def __init__(self, source, target):
        self.taken = False
        self.source = source
        self.target = target

    def __eq__(self, other):
        return isinstance(other, BoundsRefused) and self.source == other.source and self.target == other.target


class PaperTaken:
    """The claim of the paper is the plain answer."""

    def __init__(self):
        self.taken = True

    def __eq__(self, other):
        return isinstance(other, PaperTaken)


class PaperRefused:
    """The first thing that fails in an answer paper, and where."""

    def __init__(self, what, at):
        self.taken = False
        self.what = what
        self.at = at

    def __eq__(self, other):
        return isinstance(other, PaperRefused) and self.what == other.what and self.at == other.at


class ClosingTaken:
    """The cut of the paper is a least one."""

    def __init__(self):
        self.taken = True

    def __eq__(self, other):
        return isinstance(other, ClosingTaken)


class ClosingRefused:
    """The first thing that fails in a closing paper."""

    def __init__(self, what):
        self.taken = False
        self.what = what

    def __eq__(self, other):
        return isinstance(other, ClosingRefused) and self.what == other.what


class DialTaken:
    """Each way of the paper is a best one on all of its span."""

    def __init__(self):
        self.taken = True

    def __eq__(self, other):
        return isinstance(other, DialTaken)


class DialRefused:
    """The first thing that fails in a dial paper, and the index of its span."""

    def __init__(self, what, at):
        self.taken = False
        self.what = what
        self.at = at

    def __eq__(self, other):
        return isinstance(other, DialRefused) and self.what == other.what and self.at == other.at

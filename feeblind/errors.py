"""All errors of the package. Each one has a code, which is the name of its class."""


def shown(value):
    """How a message shows any value."""
    if isinstance(value, str):
        return repr(value)
    # Python does not write out numbers of thousands of digits.
    if isinstance(value, int) and value.bit_length() < 64:
        return repr(value)
    # What other kinds show may differ from run to run.
    return "this value"


class ChartError(ValueError):
    """What was passed cannot be taken."""


class BadName(ChartError):
    """A value stands where a name is wanted."""

    def __init__(self, value):
        super().__init__(f"{shown(value)} is no name")
        self.code = "BadName"
        self.value = value


class BadFee(ChartError):
    """A fee of a road, a rule or a table is out of its bounds."""

    def __init__(self, what):
        super().__init__(f"the fee {shown(what)} is out of its bounds")
        self.code = "BadFee"
        self.what = what


class BadEdit(ChartError):
    """A value in a list of edits is no edit."""

    def __init__(self, at):
        super().__init__(f"the value with the index {shown(at)} is no edit")
        self.code = "BadEdit"
        self.at = at


class BadText(ChartError):
    """A text is not in the one form that is read."""

    def __init__(self, line):
        super().__init__(f"the line with the index {shown(line)} cannot stand")
        self.code = "BadText"
        self.line = line


class BadMeasure(ChartError):
    """A measure cannot be made of what was passed."""

    def __init__(self, what):
        super().__init__(f"{shown(what)} does not fit this measure")
        self.code = "BadMeasure"
        self.what = what


class BadTable(ChartError):
    """A table of a stranger's measure is not a square of its names."""

    def __init__(self, at):
        super().__init__(f"{shown(at)} is no table of the names")
        self.code = "BadTable"
        self.at = at


class BadValue(ChartError):
    """A value is none of the measure."""

    def __init__(self, value):
        super().__init__(f"{shown(value)} is no value of the measure")
        self.code = "BadValue"
        self.value = value


class BadOrder(ChartError):
    """An order does not have just the roads that it should have."""

    def __init__(self, road):
        super().__init__(f"the order does not fit at {shown(road)}")
        self.code = "BadOrder"
        self.road = road


class BadPair(ChartError):
    """A pair is not one of two different roads."""

    def __init__(self, source, target):
        super().__init__(f"{shown(source)} and {shown(target)} are no pair")
        self.code = "BadPair"
        self.source = source
        self.target = target


class BadCells(ChartError):
    """Cells do not hold a road as they should."""

    def __init__(self, road):
        super().__init__(f"the cells do not fit at {shown(road)}")
        self.code = "BadCells"
        self.road = road


class BadSetting(ChartError):
    """A value is no setting of the dial."""

    def __init__(self, setting):
        super().__init__(f"{shown(setting)} is no setting of the dial")
        self.code = "BadSetting"
        self.setting = setting


class BadWay(ChartError):
    """A word is no way of answering that is to be had."""

    def __init__(self, word):
        super().__init__(f"there is no answering by {shown(word)}")
        self.code = "BadWay"
        self.word = word


class NoTurn(ChartError):
    """A pair of roads is no turn."""

    def __init__(self, source, target):
        super().__init__(f"{shown(source)} to {shown(target)} is no turn")
        self.code = "NoTurn"
        self.source = source
        self.target = target


class OtherEnds(ChartError):
    """A road was to be replaced by one with other ends."""

    def __init__(self, name):
        super().__init__(f"{shown(name)} has another tail or head")
        self.code = "OtherEnds"
        self.name = name


class TakenName(ChartError):
    """A name stands already."""

    def __init__(self, name):
        super().__init__(f"{shown(name)} is taken")
        self.code = "TakenName"
        self.name = name


class DoubleRule(ChartError):
    """A turn has two rules."""

    def __init__(self, source, target):
        super().__init__(f"{shown(source)} to {shown(target)} has a rule already")
        self.code = "DoubleRule"
        self.source = source
        self.target = target


class TooMany(ChartError):
    """A chart has more of something than it may have."""

    def __init__(self, what, count):
        super().__init__(f"{shown(count)} {shown(what)} are too many")
        self.code = "TooMany"
        self.what = what
        self.count = count


class Missing(LookupError):
    """What was asked for is not there."""


class UnknownName(Missing):
    """A name is not known."""

    def __init__(self, name):
        super().__init__(f"{shown(name)} is not known")
        self.code = "UnknownName"
        self.name = name


class UnknownRow(Missing):
    """A row is none of the table."""

    def __init__(self, row):
        super().__init__(f"{shown(row)} is no row of the table")
        self.code = "UnknownRow"
        self.row = row


class UnknownCell(Missing):
    """A value is no cell."""

    def __init__(self, cell):
        super().__init__(f"{shown(cell)} is no cell")
        self.code = "UnknownCell"
        self.cell = cell


class UnknownWorker(Missing):
    """A value is no number of a worker."""

    def __init__(self, worker):
        super().__init__(f"{shown(worker)} is no worker")
        self.code = "UnknownWorker"
        self.worker = worker


class Refused(RuntimeError):
    """What was asked for is refused as things are."""


class PlanNotTaken(Refused):
    """The judge of plans refuses a plan."""

    def __init__(self, refused):
        super().__init__("the plan is refused")
        self.code = "PlanNotTaken"
        self.refused = refused


class MeasureNotTaken(Refused):
    """The judge of measures refuses a measure."""

    def __init__(self, refused):
        super().__init__("the measure is refused")
        self.code = "MeasureNotTaken"
        self.refused = refused


class HubsNotTaken(Refused):
    """The judge of hubs refuses hubs."""

    def __init__(self, refused):
        super().__init__("the hubs are refused")
        self.code = "HubsNotTaken"
        self.refused = refused


class BoundsNotTaken(Refused):
    """The judge of bounds refuses bounds."""

    def __init__(self, refused):
        super().__init__("the bounds are refused")
        self.code = "BoundsNotTaken"
        self.refused = refused


class NotReady(Refused):
    """A cell is not fresh."""

    def __init__(self, cell):
        super().__init__(f"{shown(cell)} is not fresh")
        self.code = "NotReady"
        self.cell = cell


class Busy(Refused):
    """A worker has a job already."""

    def __init__(self, worker):
        super().__init__(f"the worker {shown(worker)} has a job")
        self.code = "Busy"
        self.worker = worker


class Idle(Refused):
    """A worker has no job."""

    def __init__(self, worker):
        super().__init__(f"the worker {shown(worker)} has no job")
        self.code = "Idle"
        self.worker = worker


class AtHome(Refused):
    """A question goes from a place to itself."""

    def __init__(self, place):
        super().__init__(f"start and goal are both {shown(place)}")
        self.code = "AtHome"
        self.place = place


class NothingLeft(IndexError):
    """There is no step that could be undone or redone."""

    def __init__(self):
        super().__init__("no step is left")
        self.code = "NothingLeft"

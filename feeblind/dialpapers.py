"""Dial papers: ways that are best on spans of the dial, shown at both ends of each span."""

from feeblind.nets import not_none
from feeblind.papers import AnswerPaper, answers, copied_whole, judge_answer, least_ways
from feeblind.plain import plain_answer, spread, worth_from
from feeblind.settings import begins_read, is_setting, lowest, net_at, stretches
from feeblind.verdicts import DialRefused, DialTaken


class Span:
    """A way that is claimed to be best between two settings, with marks of the roads at both of them."""

    def __init__(self, low, high, way, low_marks, high_marks):
        self.low = copied_whole(low)
        self.high = copied_whole(high)
        self.way = copied_whole(way)
        self._low_marks = not_none(low_marks)
        self._high_marks = not_none(high_marks)

    def marks_low(self):
        """The dict of the marks at the low setting that are not None, ascending."""
        return dict(self._low_marks)

    def marks_high(self):
        """The dict of the marks at the high setting that are not None, ascending."""
        return dict(self._high_marks)


class DialPaper:
    """Spans, each of which begins where the one ahead of it ends."""

    def __init__(self, spans):
        self._spans = list(spans)

    def spans(self):
        """The list of the spans."""
        return list(self._spans)

    def __len__(self):
        return len(self._spans)

    def __bool__(self):
        return True


def is_lowest(value, top):
    """Whether any value is a setting in lowest terms."""
    return is_setting(value, top) and value == lowest(value)


def is_less(one, other):
    """Whether a setting is a lesser one than another."""
    return one[0] * other[1] < other[0] * one[1]


def joins(span, begin, top):
    """Whether a span leads from a setting, where the one ahead of it ends, up to a higher one."""
    if not is_lowest(span.low, top) or not is_lowest(span.high, top):
        return False
    return span.low == begin and is_less(span.low, span.high)


def holds_at(net, begins, ends, way, marks, setting):
    """Whether marks show that any value is a best way at a setting."""
    present, begun = net_at(net, setting), begins_read(net, begins, setting)
    known = answers(net.shape, way, not_none(begun), ends)
    claim = worth_from(present, begun[way[0]], way) if known else None
    return judge_answer(present, begun, ends, AnswerPaper(marks, [way], claim)).taken


def judge_dial(net, begins, ends, paper):
    """The verdict on a dial paper."""
    spans, top = paper.spans(), net.measure.top
    if not spans:
        return DialRefused("joint", 0)
    begin = (0, 1)
    for at, span in enumerate(spans):
        last = at == len(spans) - 1
        if not joins(span, begin, top) or (last and span.high != (top, 1)):
            return DialRefused("joint", at)
        if not holds_at(net, begins, ends, span.way, span.marks_low(), span.low):
            return DialRefused("low", at)
        if not holds_at(net, begins, ends, span.way, span.marks_high(), span.high):
            return DialRefused("high", at)
        begin = span.high
    return DialTaken()


def marks_at(net, begins, setting):
    """For each road the least price from the begins at a setting."""
    return spread(net_at(net, setting), begins_read(net, begins, setting))


def dial_paper(net, begins, ends):
    """A dial paper that is taken, or None if there is no way."""
    value = plain_answer(net, begins, ends)
    if value is None:
        return None
    # Each line of the answer is the worth of one of these ways.
    by_line = {worth_from(net, begins[way[0]], way): way for way in least_ways(net, begins, ends)}
    spans = []
    for low, high, line in stretches(net.measure, value):
        marks_low, marks_high = marks_at(net, begins, low), marks_at(net, begins, high)
        spans.append(Span(low, high, by_line[(line,)], marks_low, marks_high))
    return DialPaper(spans)

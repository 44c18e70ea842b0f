"""Dial papers and their judge ([42]), and papers that are taken."""

from fractions import Fraction
from random import Random
from unittest import TestCase, main

from feeblind.charts import Chart
from feeblind.dialpapers import DialPaper, Span, dial_paper, judge_dial
from feeblind.dials import Dial
from feeblind.measures import Price
from feeblind.nets import Net, begins_at, ends_at, net_of
from feeblind.papers import AnswerPaper, judge_answer
from feeblind.plain import plain_answer
from feeblind.settings import begins_read, net_at
from feeblind.shapes import Shape
from feeblind.verdicts import DialRefused, DialTaken
from tests.charting import EXAMPLE, Ways, some_charts
from tests.dialing import dial_case, least_read, way_read
from tests.oracles import ODD

# From s to t by way of x for 4 and the dial, or by way of y for 5.
SHAPE = Shape("stxy", [("s", "x"), ("x", "t"), ("s", "y"), ("y", "t")])
ARCS = {("s", "x"): ((4, 1),), ("x", "t"): ((0, 0),), ("s", "y"): ((5, 0),), ("y", "t"): ((0, 0),)}
NET = Net(SHAPE, Dial("cost", "toll", 3), {}, ARCS)
BEGINS, ENDS = {"s": ((0, 0),)}, ["t"]
BY_X, BY_Y = ("s", "x", "t"), ("s", "y", "t")
ZERO, ONE, TOP = (0, 1), (1, 1), (3, 1)
AT_ZERO = {"s": 0, "x": 4, "y": 5, "t": 4}
AT_ONE = {"s": 0, "x": 5, "y": 5, "t": 5}
AT_TOP = {"s": 0, "x": 7, "y": 5, "t": 5}
FIRST = Span(ZERO, ONE, BY_X, AT_ZERO, AT_ONE)
SECOND = Span(ONE, TOP, BY_Y, AT_ONE, AT_TOP)


def judged(*spans, net=NET, begins=BEGINS, ends=ENDS):
    """The verdict on a paper with some spans."""
    return judge_dial(net, begins, ends, DialPaper(list(spans)))


def is_setting_by_hand(value, top):
    """Whether any value is a setting in lowest terms."""
    if type(value) is not tuple or len(value) != 2 or not all(type(part) is int for part in value) or value[1] < 1:
        return False
    fraction = Fraction(*value)
    return 0 <= fraction <= top and (fraction.numerator, fraction.denominator) == value


def judged_by_hand(net, begins, ends, spans):
    """The verdict, in the words of [42]."""
    top = net.measure.top
    if not spans:
        return DialRefused("joint", 0)
    for at, span in enumerate(spans):
        fits = is_setting_by_hand(span.low, top) and is_setting_by_hand(span.high, top)
        fits = fits and span.low == ((0, 1) if at == 0 else spans[at - 1].high) and Fraction(*span.low) < Fraction(*span.high)
        if not fits or at == len(spans) - 1 and span.high != (top, 1):
            return DialRefused("joint", at)
        for what, setting, marks in (("low", span.low, span.marks_low()), ("high", span.high, span.marks_high())):
            claim = None
            if net.shape.is_way(span.way) and begins.get(span.way[0]) is not None:
                price = way_read(net, begins, span.way, setting)
                claim = None if price is None else price * setting[1]
            paper = AnswerPaper(marks, [span.way], claim)
            if not judge_answer(net_at(net, setting), begins_read(net, begins, setting), ends, paper).taken:
                return DialRefused(what, at)
    return DialTaken()


class Parts(TestCase):
    def test_spans(self):
        span = Span(low=ZERO, high=ONE, way=BY_X, low_marks={"t": None, "s": 0}, high_marks={})
        self.assertEqual([span.low, span.high, span.way, span.marks_low(), span.marks_high()], [ZERO, ONE, BY_X, {"s": 0}, {}])
        self.assertEqual(list(FIRST.marks_low().items()), sorted(AT_ZERO.items()))
        for value in ODD:
            span = Span(value, value, value, {}, {})
            self.assertEqual([span.low, span.high, span.way], [value, value, value])
            self.assertLessEqual({"low", "high", "way"}, set(vars(span)))

    def test_papers(self):
        paper = DialPaper(spans=(FIRST, SECOND))
        self.assertEqual([len(paper), bool(paper), paper.spans()], [2, True, [FIRST, SECOND]])
        self.assertEqual([len(DialPaper([])), bool(DialPaper([])), DialPaper([]).spans()], [0, True, []])

    def test_what_is_passed_and_told_may_be_changed(self):
        low, high, way, marks, spans = [0, [1]], [{}], ["s", {"k": [1]}], dict(AT_ZERO), [FIRST]
        span, paper = Span(low, high, way, marks, marks), DialPaper(spans)
        low[1].append(2)
        high[0]["k"] = 1
        way[1]["k"].append(2)
        marks.clear()
        spans.clear()
        span.marks_low().clear()
        span.marks_high().clear()
        paper.spans().clear()
        self.assertEqual([span.low, span.high, span.way], [[0, [1]], [{}], ["s", {"k": [1]}]])
        self.assertEqual([span.marks_low(), span.marks_high()], [AT_ZERO, AT_ZERO])
        self.assertEqual(paper.spans(), [FIRST])


class Judge(TestCase):
    def test_taken(self):
        self.assertEqual(judged(FIRST, SECOND), DialTaken())
        self.assertEqual(judge_dial(net=NET, begins=BEGINS, ends=ENDS, paper=DialPaper([FIRST, SECOND])), DialTaken())
        # A span may be cut in two, where the marks fit.
        half = {"s": 0, "x": 9, "y": 10, "t": 9}
        self.assertEqual(judged(Span(ZERO, (1, 2), BY_X, AT_ZERO, half), Span((1, 2), ONE, BY_X, half, AT_ONE), SECOND), DialTaken())

    def test_without_spans(self):
        self.assertEqual([judged(), judged(begins={}), judged(ends=[])], [DialRefused("joint", 0)] * 3)

    def test_joints(self):
        self.assertEqual(judged(FIRST), DialRefused("joint", 0))
        self.assertEqual(judged(SECOND), DialRefused("joint", 0))
        self.assertEqual(judged(SECOND, FIRST), DialRefused("joint", 0))
        self.assertEqual(judged(FIRST, FIRST), DialRefused("joint", 1))
        self.assertEqual(judged(FIRST, SECOND, SECOND), DialRefused("joint", 2))
        self.assertEqual(judged(FIRST, Span((2, 1), TOP, BY_Y, AT_ONE, AT_TOP)), DialRefused("joint", 1))
        self.assertEqual(judged(FIRST, Span(ONE, (2, 1), BY_Y, AT_ONE, AT_ONE)), DialRefused("joint", 1))
        self.assertEqual(judged(FIRST, Span(ONE, ONE, BY_Y, AT_ONE, AT_ONE), SECOND), DialRefused("joint", 1))
        self.assertEqual(judged(Span(ZERO, ZERO, BY_X, AT_ZERO, AT_ZERO), FIRST, SECOND), DialRefused("joint", 0))

    def test_settings_that_are_none(self):
        for value in ODD + [(0, 2), (False, True), (0, True), (False, 1), [0, 1], (2, 2), (1, 0), (4, 1), (-1, 1), (6, 2), (7, 2), (1, True)]:
            if value != (1, 2):
                self.assertEqual(judged(Span(value, ONE, BY_X, AT_ZERO, AT_ONE), SECOND), DialRefused("joint", 0), value)
                self.assertEqual(judged(Span(ZERO, value, BY_X, AT_ZERO, AT_ONE), SECOND), DialRefused("joint", 0), value)
                self.assertEqual(judged(FIRST, Span(value, TOP, BY_Y, AT_ONE, AT_TOP)), DialRefused("joint", 1), value)
                self.assertEqual(judged(FIRST, Span(ONE, value, BY_Y, AT_ONE, AT_TOP)), DialRefused("joint", 1), value)

    def test_low_and_high(self):
        self.assertEqual(judged(Span(ZERO, ONE, BY_Y, AT_ZERO, AT_ONE), SECOND), DialRefused("low", 0))
        self.assertEqual(judged(FIRST, Span(ONE, TOP, BY_X, AT_ONE, AT_TOP)), DialRefused("high", 1))
        self.assertEqual(judged(Span(ZERO, ONE, BY_X, {**AT_ZERO, "s": 1}, AT_ONE), SECOND), DialRefused("low", 0))
        self.assertEqual(judged(Span(ZERO, ONE, BY_X, AT_ZERO, {**AT_ONE, "y": None}), SECOND), DialRefused("high", 0))
        self.assertEqual(judged(FIRST, Span(ONE, TOP, BY_Y, {}, AT_TOP)), DialRefused("low", 1))
        # The joint of the next span does not count while one ahead fails.
        self.assertEqual(judged(Span(ZERO, ONE, BY_X, AT_ZERO, {}), FIRST), DialRefused("high", 0))

    def test_ways_that_are_none(self):
        for way in ODD + [("s", "t"), ("x", "t"), ("s", "x"), list(BY_X), ("s", "x", "t", "zz"), ("s", ["x"], "t")]:
            self.assertEqual(judged(Span(ZERO, ONE, way, AT_ZERO, AT_ONE), SECOND), DialRefused("low", 0), way)
            self.assertEqual(judged(FIRST, Span(ONE, TOP, way, AT_ONE, AT_TOP)), DialRefused("low", 1), way)

    def test_a_way_without_a_worth(self):
        net = NET.with_arcs({turn: None for turn in SHAPE.turns()})
        self.assertEqual(judged(Span(ZERO, TOP, BY_X, {"s": 0}, {"s": 0}), net=net), DialTaken())
        self.assertEqual(judged(Span(ZERO, TOP, BY_X, {}, {}), net=net), DialRefused("low", 0))
        self.assertEqual(judged(Span(ZERO, TOP, BY_X, {}, {}), net=net, begins={"s": None}), DialRefused("low", 0))

    def test_marks_are_read_times_the_denominator(self):
        half = {"s": 0, "x": 9, "y": 10, "t": 9}
        wrong = {"s": 0, "x": 4, "y": 5, "t": 4}
        for marks, taken in ((half, DialTaken()), (wrong, DialRefused("high", 0))):
            told = judged(Span(ZERO, (1, 2), BY_X, AT_ZERO, marks), Span((1, 2), ONE, BY_X, half, AT_ONE), SECOND)
            self.assertEqual(told, taken)

    def bend(self, random, spans, net):
        """Spans of a paper that are shifted, left out, doubled, exchanged, or have other marks or ways."""
        spans = list(spans)
        at = random.randrange(len(spans))
        span = spans[at]
        low, high, way, marks_low, marks_high = span.low, span.high, span.way, span.marks_low(), span.marks_high()
        kind = random.randint(0, 7)
        if kind == 1:
            del spans[at]
        elif kind == 2:
            spans.insert(at, span)
        elif kind == 3:
            random.shuffle(spans)
        elif kind == 4:
            high = random.choice([(high[0] + 1, high[1]), (high[0] * 2, high[1] * 2), low, (high[0] + 1, high[1] + 2)])
        elif kind == 5:
            road = random.choice(net.shape.roads())
            marks_low[road] = random.choice([0, 1, None, marks_low.get(road, 0) + 1])
        elif kind == 6:
            road = random.choice(net.shape.roads())
            marks_high[road] = random.choice([0, 1, None, marks_high.get(road, 0) + 1])
        elif kind == 7:
            way = random.choice([other.way for other in spans] + [way[::-1], way[1:], way + way])
        if kind > 3:
            spans[at] = Span(low, high, way, marks_low, marks_high)
        return spans

    def test_many(self):
        random = Random(200)
        seen = []
        while len(seen) < 500:
            net, begins, ends = dial_case(random, random.choice([1, 2, 5]))
            paper = dial_paper(net, begins, ends)
            if paper is not None:
                spans = self.bend(random, paper.spans(), net)
                verdict = judge_dial(net, begins, ends, DialPaper(spans))
                self.assertEqual(verdict, judged_by_hand(net, begins, ends, spans))
                seen.append("taken" if verdict.taken else verdict.what)
                if verdict.taken:
                    self.look_at_ways(net, begins, ends, spans)
        self.assertTrue(all(seen.count(word) > 20 for word in ("taken", "joint", "low", "high")), seen)

    def look_at_ways(self, net, begins, ends, spans):
        """Each way is a best one at all settings of its span."""
        ways = Ways(net.shape)
        for span in spans:
            for part in range(5):
                low, high = Fraction(*span.low), Fraction(*span.high)
                setting = low + (high - low) * part / 4
                pair = (setting.numerator, setting.denominator)
                self.assertEqual(way_read(net, begins, span.way, pair), least_read(net, ways, begins, ends, pair))


class Making(TestCase):
    def test_some(self):
        paper = dial_paper(net=NET, begins=BEGINS, ends=ENDS)
        self.assertEqual([(span.low, span.high, span.way) for span in paper.spans()], [(ZERO, ONE, BY_X), (ONE, TOP, BY_Y)])
        for begins, ends in (({}, ENDS), (BEGINS, []), ({"s": None}, ENDS), ({"x": ((0, 0),)}, ["y"])):
            self.assertIsNone(dial_paper(NET, begins, ends))
        one = dial_paper(NET, {"t": ((2, 5),)}, ["t", "t"])
        self.assertEqual([(span.low, span.high, span.way) for span in one.spans()], [(ZERO, TOP, ("t",))])

    def test_many(self):
        random = Random(201)
        sizes = []
        for _ in range(250):
            net, begins, ends = dial_case(random, random.choice([1, 2, 5, 1000000]))
            paper = dial_paper(net, begins, ends)
            self.assertIs(paper is None, plain_answer(net, begins, ends) is None)
            if paper is not None:
                spans = paper.spans()
                self.assertEqual(judge_dial(net, begins, ends, paper), DialTaken())
                self.assertEqual(judged_by_hand(net, begins, ends, spans), DialTaken())
                Judge().look_at_ways(net, begins, ends, spans)
                sizes.append(len(spans))
        self.assertTrue(sizes.count(1) > 5 and sizes.count(2) > 5 and 3 in sizes, sizes)

    def test_charts(self):
        chart = Chart.read(EXAMPLE)
        for made in [chart, *some_charts(202, 10, 25, "abcdef")]:
            for measure in (Dial("cost", "toll", 4), Dial("time", "cost", 1000000), Dial("cost", "cost", 2)):
                net = net_of(made, measure)
                begins, ends = begins_at(made, net, "a"), ends_at(made, "d")
                paper = dial_paper(net, begins, ends)
                self.assertIs(paper is None, plain_answer(net, begins, ends) is None)
                if paper is not None:
                    self.assertTrue(judge_dial(net, begins, ends, paper).taken)
        self.assertEqual(net_at(net_of(chart, Dial("cost", "time", 1)), (0, 1)).measure, Price("cost"))


if __name__ == "__main__":
    main()

"""Answers, sets of ways ([25]), answer papers and their judge ([26]), and what solve refuses ([9])."""

from random import Random
from unittest import TestCase, main

from feeblind.charts import Chart
from feeblind.errors import BadOrder, MeasureNotTaken, PlanNotTaken
from feeblind.joint import Several
from feeblind.judging import judge_plan
from feeblind.ladder import fan, fill
from feeblind.measures import Price, Width
from feeblind.nets import Net, begins_at, ends_at, net_of
from feeblind.papers import Answer, AnswerPaper, judge_answer, solve
from feeblind.plain import plain_answer
from feeblind.plans import Plan, order_by_few, plan_of
from feeblind.rows import Trade
from feeblind.sentences import judge_measure
from feeblind.shapes import Shape, shape_of
from feeblind.verdicts import PaperRefused, PaperTaken
from tests.charting import (
    EXAMPLE, Ways, chart_measures, folded, plain_by_hand, small_samples, some_charts, some_net, some_question, some_shape, worth_by_hand,
)
from tests.oracles import ODD
from tests.planning import broken_told, fan_by_hand, filled_by_hand, full_case, full_plan

PRICE = Price("cost")
NET = net_of(Chart.read(EXAMPLE), PRICE)
PLAN = plan_of(NET.shape, ["cb", "bd", "ab", "ac", "cd"])
BEGINS, ENDS = {"ab": 3, "ac": 1}, ["bd", "cd"]
MARKS = {"ab": 3, "bd": 4, "ac": 1, "cb": 2, "cd": 6}
WAY = ("ac", "cb", "bd")


class Answers(TestCase):
    def test_answer(self):
        ways, paper = [("a",), ("a", "b")], AnswerPaper({}, [], None)
        answer = Answer(3, ways, paper)
        ways.clear()
        answer.ways().clear()
        self.assertEqual([answer.value, answer.ways(), answer.paper], [3, [("a",), ("a", "b")], paper])
        self.assertIsNone(Answer(value=None, ways=[]).paper)
        self.assertEqual(Answer(None, ()).ways(), [])

    def test_answers_are_equal_by_their_values(self):
        self.assertEqual(Answer(3, [("a",)]), Answer(3, [], 7))
        self.assertEqual(Answer(((1, 2),), []), Answer(((1, 2),), []))
        for other in (Answer(4, [("a",)]), Answer(None, [("a",)]), Answer((3,), [("a",)]), 3, None):
            self.assertNotEqual(Answer(3, [("a",)]), other)

    def test_paper(self):
        marks, ways = {"b": 2, "a": None, "c": 0}, [("a", ["b", {"c": [1]}]), ["x"], {"y": ({"z": []},)}]
        paper = AnswerPaper(marks, ways, 7)
        told = [("a", ["b", {"c": [1]}]), ["x"], {"y": ({"z": []},)}]
        marks.clear()
        ways[0][1][1]["c"].append(2)
        ways[0][1].append(3)
        ways[1].append("y")
        ways[2]["y"][0]["z"].append(1)
        ways.append(None)
        self.assertEqual([list(paper.marks().items()), paper.ways(), paper.claim], [[("b", 2), ("c", 0)], told, 7])
        first = paper.ways()
        first[0][1][1]["c"].append(2)
        first[1].clear()
        first[2]["y"][0]["z"].append(1)
        first.clear()
        paper.marks().clear()
        self.assertEqual([paper.marks(), paper.ways()], [{"b": 2, "c": 0}, told])

    def test_papers_are_equal_in_all(self):
        paper = AnswerPaper({"a": 1, "b": None}, [("a",)], 3)
        self.assertEqual(paper, AnswerPaper(marks={"a": 1}, ways=(("a",),), claim=3))
        for other in (
            AnswerPaper({"a": 2}, [("a",)], 3), AnswerPaper({"a": 1, "c": 1}, [("a",)], 3), AnswerPaper({"a": 1}, [], 3),
            AnswerPaper({"a": 1}, [["a"]], 3), AnswerPaper({"a": 1}, [("a",)], None), 3, None, Answer(3, []),
        ):
            self.assertNotEqual(paper, other)


def judged_by_hand(net, begins, ends, marks, ways, claim):
    """The five looks of [26], in order: (what, at) of the first one that fails, or None."""
    measure, arcs = net.measure, net.arcs()

    def no_worse(one, other):
        return other is None or one is not None and measure.best(one, other) == one
    for road in sorted(begins):
        if begins[road] is not None and not no_worse(marks.get(road), begins[road]):
            return "begin", road
    for u, v in net.shape.turns():
        brought = None if marks.get(u) is None or (u, v) not in arcs else measure.then(marks[u], arcs[(u, v)])
        if not no_worse(marks.get(v), brought):
            return "turn", (u, v)
    if folded(measure, [marks.get(end) for end in ends]) != claim:
        return "end", None
    for at, way in enumerate(ways):
        known = isinstance(way, tuple) and len(way) > 0 and all(isinstance(road, str) and road in net.shape.roads() for road in way)
        if not known or not all(turn in net.shape.turns() for turn in zip(way, way[1:])):
            return "way", at
        if begins.get(way[0]) is None or way[-1] not in ends:
            return "way", at
    if folded(measure, [worth_by_hand(net, way, begins[way[0]]) for way in ways]) != claim:
        return "worth", None
    return None


class Judge(TestCase):
    def judged(self, what, at, marks=None, ways=(WAY,), claim=4, begins=None, ends=None):
        marks, begins, ends = marks or MARKS, begins or BEGINS, ends or ENDS
        verdict = judge_answer(NET, begins, ends, AnswerPaper(marks, list(ways), claim))
        wanted = PaperTaken() if what is None else PaperRefused(what, at)
        self.assertEqual(verdict, wanted, getattr(verdict, "what", None))
        self.assertIs(verdict.taken, what is None)

    def test_taken(self):
        self.judged(None, None)
        self.judged(None, None, ways=[("ab", "bd"), WAY, ("ac", "cd"), WAY])
        self.assertTrue(judge_answer(net=NET, begins=BEGINS, ends=ENDS + ENDS, paper=AnswerPaper(MARKS, [WAY], 4)).taken)

    def test_marks_of_no_roads_mean_nothing(self):
        self.judged(None, None, marks={**MARKS, "x": 0, "aa": None})
        self.judged("end", None, marks={**MARKS, "x": 0}, claim=0)

    def test_begins(self):
        self.judged("begin", "ab", marks={**MARKS, "ab": 4})
        self.judged("begin", "ac", marks={**MARKS, "ac": None})
        self.judged("begin", "ab", marks={**MARKS, "ac": 9, "ab": 9, "bd": 0, "cd": 9}, ways=[None], claim=7)
        self.judged("begin", "ab", begins={"cd": 0, "bd": 0, "ab": 2}, ways=[])
        self.judged("turn", ("ac", "cb"), marks={**MARKS, "ac": 0})
        self.judged(None, None, begins={"ab": 3, "ac": 1, "cb": None, "bd": None})

    def test_turns(self):
        self.judged("turn", ("cb", "bd"), marks={**MARKS, "bd": 5})
        self.judged("turn", ("ab", "bd"), marks={**MARKS, "bd": 6})
        self.judged("turn", ("ac", "cd"), marks={**MARKS, "cd": None}, claim=9, ways=[None])
        self.judged("turn", ("ab", "bd"), marks={**MARKS, "bd": None, "cd": None})

    def test_ends(self):
        self.judged("end", None, claim=5)
        self.judged("end", None, claim=None)
        self.judged("end", None, claim=3, ways=[None, 7])
        self.judged("end", None, marks={**MARKS, "bd": 3})
        self.judged("end", None, ends=["cd"], ways=[("ac", "cd")])
        self.judged(None, None, ends=["cd", "cd"], ways=[("ac", "cd")], claim=6)

    def test_ways(self):
        for value in ODD + [("ac", "bd"), ["ac", "cb", "bd"], ("ac", "cb"), ("cb", "bd"), ("bd",), ("x",), ("ac", "cb", "bd", "x"), (["ac"],)]:
            self.judged("way", 2, ways=[WAY, ("ab", "bd"), value, None])
        self.judged("way", 0, ways=[None])
        self.judged("way", 0, ways=[("ab", "bd")], begins={"ab": None, "ac": 1})

    def test_ways_that_are_not_simple(self):
        shape = Shape("ab", [("a", "b"), ("b", "a")])
        net = Net(shape, PRICE, {}, {("a", "b"): 0, ("b", "a"): 0})
        paper = AnswerPaper({"a": 1, "b": 1}, [("a", "b", "a", "b")], 1)
        self.assertEqual(judge_answer(net, {"a": 1}, ["b"], paper), PaperTaken())

    def test_worths(self):
        self.judged("worth", None, ways=[])
        self.judged("worth", None, ways=[("ab", "bd")])
        closed = NET.closed(["cb"])
        marks = {"ab": 3, "ac": 1, "bd": 5, "cd": 6}
        paper = AnswerPaper(marks, [WAY], 5)
        self.assertEqual(judge_answer(closed, BEGINS, ENDS, paper), PaperRefused("worth", None))
        paper = AnswerPaper(marks, [WAY, ("ab", "bd")], 5)
        self.assertEqual(judge_answer(closed, BEGINS, ENDS, paper), PaperTaken())

    def test_nothing_asked(self):
        for begins, ends in (({}, ["bd"]), ({"ac": 1}, []), ({"ac": None}, ["bd"]), ({}, [])):
            marks = {} if not any(begins.values()) else MARKS
            self.assertEqual(judge_answer(NET, begins, ends, AnswerPaper(marks, [], None)), PaperTaken())
            self.assertEqual(judge_answer(NET, begins, ends, AnswerPaper(marks, [WAY], None)), PaperRefused("way", 0))
            self.assertEqual(judge_answer(NET, begins, ends, AnswerPaper(marks, [], 0)), PaperRefused("end", None))
        self.assertEqual(judge_answer(Net(Shape([], []), PRICE, {}, {}), {}, [], AnswerPaper({}, [], None)), PaperTaken())

    def test_by_hand(self):
        random = Random(60)
        seen = {}
        for measure, values in small_samples() * 5:
            net, plan, begins, ends = full_case(random, measure, values, 4)
            marks = fan_by_hand(measure, plan, filled_by_hand(net, plan), begins)
            claim = plain_by_hand(net, Ways(net.shape), begins, ends)
            ways = Ways(net.shape).answering(begins, ends)
            for _ in range(4):
                some, more, say = dict(marks), list(ways), claim
                for _ in range(random.choice((0, 1, 1, 2))):
                    deed = random.randrange(4)
                    if deed == 0 and some:
                        some[random.choice(sorted(some))] = random.choice(values + [None])
                    elif deed == 1 and more:
                        more.pop(random.randrange(len(more)))
                    elif deed == 2:
                        more.append(random.choice([(), ("aa",), None, tuple(net.shape.roads()[:2]), tuple(net.shape.roads()[:1])]))
                    elif deed == 3:
                        say = random.choice(values + [None])
                wanted = judged_by_hand(net, begins, ends, some, more, say)
                verdict = judge_answer(net, begins, ends, AnswerPaper(some, more, say))
                self.assertEqual(verdict, PaperTaken() if wanted is None else PaperRefused(*wanted))
                seen[wanted and wanted[0]] = seen.get(wanted and wanted[0], 0) + 1
                if wanted is None:
                    # A paper is taken only if its claim is the plain answer.
                    self.assertEqual(say, claim)
        self.assertEqual(set(seen), {None, "begin", "turn", "end", "way", "worth"})
        self.assertGreater(min(seen.values()), 4)


class Solving(TestCase):
    def look(self, net, plan, begins, ends, ways):
        answer = solve(net, plan, begins, ends)
        measure = net.measure
        wanted = plain_by_hand(net, ways, begins, ends)
        self.assertEqual(answer.value, wanted)
        self.assertTrue(judge_answer(net, begins, ends, answer.paper).taken)
        told = answer.ways()
        self.assertLessEqual(set(told), set(ways.answering(begins, ends)))
        worths = [worth_by_hand(net, way, begins[way[0]]) for way in told]
        self.assertEqual(folded(measure, worths), wanted)
        for at in range(len(told)):
            self.assertNotEqual(folded(measure, worths[:at] + worths[at + 1:]), wanted)
        self.assertEqual(told == [], wanted is None)
        again = solve(net, plan, begins, ends)
        self.assertEqual([again.ways(), again.paper, again.value], [told, answer.paper, wanted])
        return len(told)

    def test_example(self):
        answer = solve(net=NET, plan=PLAN, begins=BEGINS, ends=ENDS)
        self.assertEqual([answer.value, answer.ways()], [4, [WAY]])
        self.assertTrue(judge_answer(NET, BEGINS, ENDS, answer.paper).taken)
        answer.ways().clear()
        self.assertEqual(answer.ways(), [WAY])

    def test_roads_that_are_begin_and_end_at_once(self):
        answer = solve(NET, PLAN, {"bd": 7, "cd": 9, "ab": None}, ["cd", "bd", "bd"])
        self.assertEqual([answer.value, answer.ways()], [7, [("bd",)]])

    def test_nothing_asked(self):
        for begins, ends in (({}, ["bd"]), ({"ac": 1}, []), ({"ac": None}, ["bd"]), ({}, []), ({"bd": 1}, ["ab"])):
            answer = solve(NET, PLAN, begins, ends)
            self.assertEqual([answer.value, answer.ways()], [None, []])
            self.assertTrue(judge_answer(NET, begins, ends, answer.paper).taken)
        answer = solve(Net(Shape([], []), PRICE, {}, {}), Plan([], []), {}, [])
        self.assertEqual([answer.value, answer.ways()], [None, []])

    def test_several_ways_where_each_is_needed(self):
        shape = Shape("abcz", [("a", "b"), ("a", "c"), ("b", "z"), ("c", "z"), ("a", "z")])
        trade = Trade("cost", "time")
        arcs = {("a", "b"): ((1, 5),), ("a", "c"): ((5, 1),), ("b", "z"): ((0, 0),), ("c", "z"): ((0, 0),), ("a", "z"): ((3, 3), (9, 0))}
        net = Net(shape, trade, {}, arcs)
        answer = solve(net, plan_of(shape, list("abcz")), {"a": ((0, 0),)}, ["z"])
        self.assertEqual(answer.value, ((1, 5), (3, 3), (5, 1), (9, 0)))
        self.assertEqual(sorted(answer.ways()), [("a", "b", "z"), ("a", "c", "z"), ("a", "z")])

    def test_measures_of_each_kind(self):
        random = Random(61)
        many = []
        for measure, values in small_samples():
            for _ in range(8):
                net, plan, begins, ends = full_case(random, measure, values, 5)
                many.append(self.look(net, plan, begins, ends, Ways(net.shape)))
        self.assertGreater(many.count(2), 3)

    def test_rings_that_cost_nothing(self):
        random = Random(62)
        for measure, values in small_samples():
            shape = some_shape(random, 5, 3)
            net = Net(shape, measure, {}, {turn: random.choice([measure.stay, values[0]]) for turn in shape.turns()})
            begins, ends = some_question(random, net, values)
            self.look(net, full_plan(random, shape), begins, ends, Ways(shape))

    def test_charts(self):
        random = Random(63)
        for chart in some_charts(64, 8, 6):
            ways = Ways(shape_of(chart))
            for measure in chart_measures():
                net = net_of(chart, measure)
                begins, ends = begins_at(chart, net, random.choice("abcd")), ends_at(chart, random.choice("abcd"))
                self.look(net, full_plan(random, net.shape), begins, ends, ways)

    def test_a_large_chart(self):
        chart = some_charts(56, 1, 60, "abcdefghijklmnopqrstuvwxyz")[0]
        plan = plan_of(shape_of(chart), order_by_few(shape_of(chart)))
        for measure in chart_measures():
            net = net_of(chart, measure)
            for place in chart.places()[:5]:
                begins, ends = begins_at(chart, net, place), ends_at(chart, chart.places()[-1])
                answer = solve(net, plan, begins, ends)
                self.assertEqual(answer.value, plain_answer(net, begins, ends))
                self.assertTrue(judge_answer(net, begins, ends, answer.paper).taken)

    def test_the_marks_of_the_fan_are_taken(self):
        random = Random(65)
        for measure, values in small_samples():
            net, plan, begins, ends = full_case(random, measure, values, 5)
            answer = solve(net, plan, begins, ends)
            marks = fan(measure, plan, fill(net, plan), begins)
            paper = AnswerPaper(marks, answer.ways(), answer.value)
            self.assertTrue(judge_answer(net, begins, ends, paper).taken)


class Refusals(TestCase):
    def test_measures(self):
        for measures in broken_told(66, 2).values():
            for told in measures:
                for measure in (told, Several(PRICE, told)):
                    net = Net(Shape("ab", [("a", "b")]), measure, {}, {})
                    for plan in (Plan(["a", "b"], [("a", "b")]), Plan(["a", "b"], []), Plan(["c"], [])):
                        with self.assertRaises(MeasureNotTaken) as caught:
                            solve(net, plan, {}, [])
                        self.assertEqual(caught.exception.refused, judge_measure(told))

    def test_orders(self):
        for order, road in ((["ab", "ac"], "bd"), ([*PLAN.order(), "x"], "x"), ([], "ab")):
            with self.assertRaises(BadOrder) as caught:
                solve(NET, Plan(order, []), BEGINS, ENDS)
            self.assertEqual(caught.exception.road, road)

    def test_plans(self):
        less = Plan(PLAN.order(), NET.shape.turns())
        with self.assertRaises(PlanNotTaken) as caught:
            solve(NET, less, BEGINS, ENDS)
        self.assertEqual(caught.exception.refused, judge_plan(NET.shape, less))
        self.assertEqual([caught.exception.refused.source, caught.exception.refused.target], ["ac", "bd"])

    def test_widths(self):
        net = net_of(Chart.read(EXAMPLE), Width())
        self.assertEqual(solve(net, PLAN, {"ab": 5, "ac": 7}, ENDS).value, 1)


if __name__ == "__main__":
    main()

"""The section "Examples" of the document, whole."""

from unittest import TestCase, main

from feeblind.charts import Chart
from feeblind.dials import Dial, lowest_lines
from feeblind.errors import BadText
from feeblind.hours import Hours, hours_of, read_hours
from feeblind.house import House
from feeblind.judging import counter_case, judge_plan
from feeblind.ladder import fill, plain_case, told_answer, told_case
from feeblind.measures import Price
from feeblind.nets import begins_at, ends_at, net_of
from feeblind.papers import AnswerPaper, judge_answer
from feeblind.plain import plain_answer
from feeblind.plans import Plan, plan_of
from feeblind.sentences import judge_measure
from feeblind.settings import joints, read_dial, stretches
from feeblind.shapes import shape_of
from feeblind.told import Told

TEXT = (
    "road ab a b\nprice cost 3\nroad ac a c\nprice cost 1\ndoubtful\nroad bd b d\nprice cost 2\nroad cb c b\nprice cost 1\n"
    "doubtful\nroad cd c d\nprice cost 5\nend\n"
)


class Examples(TestCase):
    def test_plan(self):
        chart = Chart.read(TEXT)
        shape = shape_of(chart)
        self.assertEqual(shape.turns(), [("ab", "bd"), ("ac", "cb"), ("ac", "cd"), ("cb", "bd")])
        plan = plan_of(shape, ["cb", "bd", "ab", "ac", "cd"])
        net = net_of(chart, Price("cost"))
        begins, ends = begins_at(chart, net, "a"), ends_at(chart, "d")
        self.assertEqual(plain_answer(net, begins, ends), 4)
        table = fill(net, plan)
        less = Plan(plan.order(), shape.turns())
        refused = judge_plan(shape, less)
        told = [table, told_answer(net.measure, plan, table, begins, ends), refused.source, refused.target, refused.way]
        wanted = {("ab", "bd"): 2, ("ac", "bd"): 3, ("ac", "cb"): 1, ("ac", "cd"): 5, ("cb", "bd"): 2}
        self.assertEqual(told, [wanted, 4, "ac", "bd", ("ac", "cb", "bd")])

    def test_house(self):
        house = House(Chart.read(TEXT))
        table = house.fees_table("a", "d", wish="cost")
        readings = [table.reading(fees={"ac": 1}), table.reading(shut=["cb"])]
        told = [table.rows(), *readings, table.point((5, ())), table.breaking(), table.limit("ac"), house("a", "d")]
        self.assertEqual(told, [[(4, ("ac", "cb")), (5, ())], 5, 5, ["ac", "cb"], [("ac",), ("cb",)], 1, 4])

    def test_paper(self):
        net = net_of(Chart.read(TEXT), Price("cost"))
        good = AnswerPaper({"ab": 3, "bd": 4, "ac": 1, "cb": 2, "cd": 6}, [("ac", "cb", "bd")], 4)
        bad = AnswerPaper({"ab": 3, "bd": 5, "ac": 1, "cb": 2, "cd": 6}, [("ac", "cb", "bd")], 4)
        refused = judge_answer(net, {"ab": 3, "ac": 1}, ["bd", "cd"], bad)
        taken = judge_answer(net, {"ab": 3, "ac": 1}, ["bd", "cd"], good).taken
        self.assertEqual([taken, refused.what, refused.at], [True, "turn", ("cb", "bd")])

    def test_bad_text(self):
        with self.assertRaises(BadText) as caught:
            Chart.read("road ab a b\nprice cost 0\nend\n")
        self.assertEqual(caught.exception.line, 1)

    def test_told(self):
        best = [["o", "o", "o", "o"], ["o", "wl", "wl", "wl"], ["o", "wl", "ns", "ns"], ["o", "wl", "ns", "nl"]]
        then = [["o", "wl", "ns", "nl"], ["wl", "wl", "nl", "nl"], ["ns", "nl", "ns", "nl"], ["nl", "nl", "nl", "nl"]]
        measure = Told(["o", "wl", "ns", "nl"], best, then, "o")
        refused = judge_measure(measure)
        case = counter_case(measure, refused)
        told = [refused.sentence, refused.one, refused.two, refused.three, told_case(case), plain_case(case)]
        self.assertEqual(told, ["left_sharing", "ns", "wl", "ns", "nl", "ns"])

    def test_hours(self):
        hours = Hours(6)
        ab = hours_of(6, [(1, 2)], 1)
        ac = hours_of(6, None, 1)
        cb = hours_of(6, [(2, 4)], 1)
        cd = hours_of(6, None, 3)
        one = hours.then(ab, ac)
        value = hours.best(one, hours.best(hours.then(hours.then(ac, cb), ac), hours.then(ac, cd)))
        wanted = [(2, 2, 8, 8, 8, 8), (3, 3, 3, 4, 9, 9), (3, 3, 5, 7, 8, 9), 11]
        self.assertEqual([ab, cb, value, read_hours(value, 8)], wanted)

    def test_dial(self):
        dial = Dial("cost", "toll", 3)
        value = lowest_lines([(5, 0), (4, 1), (6, 0)], 3)
        self.assertIs(dial.is_value(value), True)
        told = [value, joints(dial, value), read_dial(dial, value, (1, 2)), stretches(dial, value)]
        wanted = [((4, 1), (5, 0)), [(1, 1)], 9, [((0, 1), (1, 1), (4, 1)), ((1, 1), (3, 1), (5, 0))]]
        self.assertEqual(told, wanted)


if __name__ == "__main__":
    main()

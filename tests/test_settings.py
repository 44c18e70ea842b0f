"""Settings ([41]): readings, joints, stretches, and the net at a setting."""

from fractions import Fraction
from random import Random
from unittest import TestCase, main

from feeblind.charts import Chart
from feeblind.dials import Dial, lowest_lines
from feeblind.errors import BadSetting
from feeblind.measures import Price
from feeblind.nets import Net, begins_at, net_of
from feeblind.plain import plain_answer
from feeblind.settings import begins_read, joints, lowest, net_at, read_dial, stretches
from feeblind.shapes import Shape
from tests.charting import EXAMPLE, Ways
from tests.dialing import dial_case, least_read, read_at, some_settings
from tests.oracles import ODD, meetings
from tests.samples import dial_values

DIAL = Dial("cost", "toll", 3)
VALUE = ((4, 1), (5, 0))
NO_SETTINGS = [
    (1, 0), (0, 0), (-1, 1), (4, 1), (7, 2), (1, -1), (True, 1), (1, True), (False, 1), (1,), (1, 1, 1), [1, 1], (1, "1"), (None, 1), (1, None),
    ((1, 1),), (3000001, 1000000), 1, 0, "1",
]
# Of these only (1, 2) is a setting.
WRONG = NO_SETTINGS + [value for value in ODD if value != (1, 2)]


class Lowest(TestCase):
    def test_some(self):
        self.assertEqual([lowest((2, 4)), lowest((0, 9)), lowest(setting=(7, 1)), lowest((12, 18)), lowest((5, 5))], [(1, 2), (0, 1), (7, 1), (2, 3), (1, 1)])

    def test_many(self):
        for n in range(30):
            for d in range(1, 30):
                wanted = Fraction(n, d)
                self.assertEqual(lowest((n, d)), (wanted.numerator, wanted.denominator))


class Reading(TestCase):
    def test_some(self):
        self.assertEqual([read_dial(DIAL, VALUE, setting) for setting in ((0, 1), (1, 2), (2, 4), (1, 1), (3, 1), (0, 5))], [4, 9, 18, 5, 5, 20])
        self.assertEqual(read_dial(measure=DIAL, value=((0, 0),), setting=(5, 2)), 0)

    def test_many(self):
        for top in (1, 3, 1000000):
            for value in dial_values(top):
                for setting in some_settings(top):
                    told = read_dial(Dial("cost", "toll", top), value, setting)
                    self.assertIs(type(told), int)
                    self.assertEqual(told, read_at(value, setting) * setting[1])

    def test_bad_settings(self):
        net = Net(Shape([], []), DIAL, {}, {})
        for setting in WRONG:
            for call in (lambda: read_dial(DIAL, VALUE, setting), lambda: net_at(net, setting), lambda: begins_read(net, {}, setting)):
                with self.assertRaises(BadSetting) as caught:
                    call()
                self.assertIs(caught.exception.setting, setting)


class Lines(TestCase):
    def test_example(self):
        self.assertEqual(joints(DIAL, VALUE), [(1, 1)])
        self.assertEqual(stretches(DIAL, VALUE), [((0, 1), (1, 1), (4, 1)), ((1, 1), (3, 1), (5, 0))])
        self.assertEqual([joints(measure=DIAL, value=((0, 0),)), stretches(measure=DIAL, value=((7, 2),))], [[], [((0, 1), (3, 1), (7, 2))]])
        value = lowest_lines([(0, 6), (3, 2), (6, 0)], 3)
        self.assertEqual(joints(DIAL, value), [(3, 4), (3, 2)])

    def test_many(self):
        for top in (1, 3, 1000000):
            dial = Dial("cost", "toll", top)
            for value in dial_values(top):
                told = joints(dial, value)
                self.assertEqual([Fraction(*joint) for joint in told], [at for at in meetings(value, top)[1:-1] if self.bends(value, at)])
                self.assertTrue(all(lowest(joint) == joint and Fraction(0) < Fraction(*joint) < top for joint in told))
                marks = [(0, 1), *told, (top, 1)]
                rows = stretches(dial, value)
                self.assertEqual(rows, list(zip(marks, marks[1:], value)))
                for low, high, line in rows:
                    for setting in (Fraction(*low), Fraction(*high), (Fraction(*low) + Fraction(*high)) / 2):
                        self.assertEqual(line[0] + line[1] * setting, read_at(value, (setting.numerator, setting.denominator)))

    def bends(self, value, at):
        """Whether two lines of a value are least at a setting."""
        prices = [a + b * at for a, b in value]
        return prices.count(min(prices)) == 2

    def test_what_is_told_may_be_changed(self):
        joints(DIAL, VALUE).clear()
        stretches(DIAL, VALUE).clear()
        self.assertEqual([len(joints(DIAL, VALUE)), len(stretches(DIAL, VALUE))], [1, 2])


class Nets(TestCase):
    def test_example(self):
        net = net_of(Chart.read(EXAMPLE), Dial("cost", "time", 2))
        told = net_at(net=net, setting=(1, 2))
        self.assertEqual([told.measure, told.entry("ab"), told.arc("cb", "bd"), told.shape], [Price("cost"), 6, 4, net.shape])
        self.assertEqual(net_at(net, (0, 1)), net_of(Chart.read(EXAMPLE), Price("cost")))
        begins = {"cd": None, **begins_at(Chart.read(EXAMPLE), net, "a")}
        self.assertEqual(begins_read(net=net, begins=begins, setting=(1, 2)), {"ab": 6, "ac": 2, "cd": None})
        self.assertEqual([begins_read(net, {}, (2, 1)), len(begins)], [{}, 3])

    def test_the_first_wish_names_the_measure(self):
        net = Net(Shape("ab", [("a", "b")]), Dial("toll", "cost", 2), {"a": ((1, 1), (2, 0))}, {("a", "b"): ((0, 3),)})
        told = net_at(net, (3, 2))
        self.assertEqual([told.measure, told.entries(), told.arcs()], [Price("toll"), {"a": 4}, {("a", "b"): 9}])

    def test_both_wishes_alike(self):
        net = net_of(Chart.read(EXAMPLE), Dial("cost", "cost", 5))
        self.assertEqual(net_at(net, (5, 1)).entries(), {"ab": 18, "ac": 6, "bd": 12, "cb": 6, "cd": 30})

    def test_dial_values_at_settings_are_the_least_prices_there(self):
        random = Random(190)
        for _ in range(60):
            top = random.choice([1, 2, 5])
            net, begins, ends = dial_case(random, top)
            ways, value = Ways(net.shape), plain_answer(net, begins, ends)
            for setting in some_settings(top):
                wanted = least_read(net, ways, begins, ends, setting)
                self.assertEqual(read_at(value, setting), wanted)
                told = plain_answer(net_at(net, setting), begins_read(net, begins, setting), ends)
                self.assertEqual(told, None if wanted is None else wanted * setting[1])
                if value is not None:
                    self.assertEqual(read_dial(net.measure, value, setting), told)


if __name__ == "__main__":
    main()

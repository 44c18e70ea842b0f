"""The text of a chart, and reading it ([6])."""

from random import Random
from unittest import TestCase, main

from feeblind.charts import Chart
from feeblind.errors import BadText
from feeblind.roads import Road, Rule
from tests.charting import EXAMPLE, first_bad_line, is_text, some_charts, written
from tests.oracles import ODD

ROADS = "road ab a b\nroad bc b c\nroad ca c a\n"
WHOLE = (
    "road a x x\nprice cost 1000000\nprice toll 1\nwidth 1000000\nticks 960\nmark abcdefgh\nwindow 0 1\nwindow 2 95\n"
    "wheels bus car\ndoubtful\nroad b x y\nticks 0\nnever\nwheels\nroad c y x\nwindow 95 96\n"
    "turn a b\nprice cost 7\nprice toll 9\nticks 1\nwheels\nturn b c\nticks 960\nturn c a\nwheels car\nend\n"
)


class Reading(TestCase):
    def refused(self, text, line):
        with self.assertRaises(BadText, msg=repr(text)[:300]) as caught:
            Chart.read(text)
        self.assertEqual(caught.exception.line, line, repr(text)[:300])
        if isinstance(text, str) and len(text) < 3000:
            self.assertEqual(first_bad_line(text), line, text)

    def block(self, *lines):
        """The text of one road with these lines in its block."""
        return "".join(line + "\n" for line in ["road ab a b", *lines, "end"])

    def rule(self, *lines):
        """The text of three roads with these lines in the block of a rule."""
        return ROADS + "".join(line + "\n" for line in ["turn ab bc", *lines, "end"])

    def test_whole_texts(self):
        for text in ("end\n", EXAMPLE, WHOLE, ROADS + "end\n"):
            self.assertEqual(Chart.read(text).text(), text)
            self.assertEqual(Chart.read(text=text), Chart.read(text))
            self.assertIsNone(first_bad_line(text))

    def test_what_is_read(self):
        chart = Chart.read(WHOLE)
        self.assertEqual(chart.roads(), [
            Road("a", "x", "x", prices={"cost": 1000000, "toll": 1}, width=1000000, ticks=960, mark="abcdefgh",
                 windows=[(0, 1), (2, 95)], wheels=["bus", "car"], doubtful=True),
            Road("b", "x", "y", ticks=0, windows=[], wheels=[]), Road("c", "y", "x", windows=[(95, 96)]),
        ])
        self.assertEqual(chart.rules(), [
            Rule("a", "b", prices={"cost": 7, "toll": 9}, ticks=1, wheels=[]), Rule("b", "c", ticks=960),
            Rule("c", "a", wheels=["car"]),
        ])

    def test_no_strings(self):
        for value in ODD:
            if not isinstance(value, str):
                self.refused(value, 0)

    def test_texts_that_end_too_early(self):
        for text in (EXAMPLE, WHOLE):
            lines = text.split("\n")[:-1]
            for at in range(len(lines)):
                self.refused("".join(line + "\n" for line in lines[:at]), at)
                begun = "".join(line + "\n" for line in lines[:at])
                for cut in range(1, len(lines[at]) + 1):
                    self.refused(begun + lines[at][:cut], at)

    def test_lines_behind_the_end(self):
        self.refused("end\n\n", 1)
        self.refused("end\nend\n", 1)
        self.refused("end\nend", 1)
        self.refused("end\n ", 1)
        self.refused(EXAMPLE + "road de d e\nend\n", EXAMPLE.count("\n"))

    def test_other_line_ends_and_blanks(self):
        self.refused(EXAMPLE.replace("\n", "\r\n"), 0)
        self.refused(EXAMPLE.replace("\n", "\r"), 0)
        self.refused("end\r\n", 0)
        self.refused("end\x0b", 0)
        self.refused("\nend\n", 0)
        for line in ("road  ab a b", "road ab a b ", " road ab a b", "road ab a  b", "road\tab a b", "road ab a\u00a0b", "Road ab a b"):
            self.refused(line + "\nend\n", 0)
        for line in ("end ", " end", "END", "end end", "en", ""):
            self.refused(ROADS + line + "\n", 3)

    def test_lines_of_roads(self):
        for line in ("road", "road ab", "road ab a", "road ab a b c", "road AB a b", "road ab1 a b", "road ab a abcdefghi",
                     "road  a b", "road ab a \u00e4", "roads ab a b", "price cost 1", "width 2", "doubtful", "wheels", "never"):
            self.refused(line + "\nend\n", 0)
        self.refused("road b a b\nroad a a b\nend\n", 1)
        self.refused("road b a b\nroad b a b\nend\n", 1)
        self.refused("road b a b\nroad b b c\nend\n", 1)
        Chart.read("road abcdefgh abcdefgh abcdefgh\nend\n")

    def test_prices(self):
        for number in ("0", "00", "01", "+1", "-1", "1000001", "1.0", "1_0", "", "x", "\u0661", "9" * 7, "1" * 8, "7" * 5000, "0" * 5000 + "1"):
            self.refused(self.block("price cost " + number), 1)
            self.refused(self.rule("price cost " + number), 4)
        for lines in (["price cost"], ["price"], ["price cost 1 2"], ["price Cost 1"], ["price  1"]):
            self.refused(self.block(*lines), 1)
        self.refused(self.block("price toll 1", "price cost 1"), 2)
        self.refused(self.block("price cost 1", "price cost 1"), 2)
        self.refused(self.block("price cost 1", "price cost 2"), 2)
        self.refused(self.rule("price toll 1", "price cost 1"), 5)
        self.refused(self.rule("price toll 1", "price toll 1"), 5)
        Chart.read(self.block("price cost 1", "price costs 1000000"))

    def test_widths(self):
        for number in ("1", "0", "01", "02", "1000001", "", "x", "-2", "2 2", "7" * 5000):
            self.refused(self.block("width " + number), 1)
        self.refused(self.block("width"), 1)
        self.refused(self.block("width 2", "width 2"), 2)
        self.refused(self.block("width 2", "price cost 1"), 2)
        self.refused(self.rule("width 2"), 4)
        Chart.read(self.block("width 1000000"))

    def test_ticks(self):
        for number in ("1", "00", "01", "961", "", "-1", "2 2", "7" * 5000):
            self.refused(self.block("ticks " + number), 1)
        for number in ("0", "01", "961", "", "-1", "7" * 5000):
            self.refused(self.rule("ticks " + number), 4)
        self.refused(self.block("ticks 0", "ticks 0"), 2)
        self.refused(self.block("ticks 2", "width 2"), 2)
        self.refused(self.rule("ticks 2", "price cost 1"), 5)
        self.refused(self.rule("ticks 2", "ticks 3"), 5)
        self.assertEqual(Chart.read(self.block("ticks 0")).road_named("ab").ticks, 0)
        self.assertEqual(Chart.read(self.rule("ticks 1")).rule("ab", "bc").ticks, 1)

    def test_marks(self):
        for line in ("mark", "mark A", "mark abcdefghi", "mark a b", "mark "):
            self.refused(self.block(line), 1)
        self.refused(self.block("mark a", "mark b"), 2)
        self.refused(self.block("mark a", "ticks 2"), 2)
        self.refused(self.rule("mark a"), 4)

    def test_windows(self):
        for line in ("window", "window 1", "window  1", "window 1 1", "window 2 1", "window 1 97", "window 96 97", "window 01 2", "window -1 2",
                     "window 1 2 3", "window a 2", "window 1 " + "9" * 5000, "never never", "never 1", "window None 2"):
            self.refused(self.block(line), 1)
        self.refused(self.block("window 1 2", "window 2 3"), 2)
        self.refused(self.block("window 1 2", "window 1 2"), 2)
        self.refused(self.block("window 4 5", "window 1 2"), 2)
        self.refused(self.block("window 1 2", "never"), 2)
        self.refused(self.block("never", "never"), 2)
        self.refused(self.block("never", "window 1 2"), 2)
        self.refused(self.block("never", "mark a"), 2)
        self.refused(self.block("window 0 96", "window 97 98"), 2)
        self.refused(self.rule("window 1 2"), 4)
        self.refused(self.rule("never"), 4)
        Chart.read(self.block("window 0 1", "window 2 3", "window 4 96"))

    def test_wheels(self):
        for line in ("wheels ", "wheels b a", "wheels a a", "wheels A", "wheels a  b", "wheels abcdefghi", "wheel"):
            self.refused(self.block(line), 1)
            self.refused(self.rule(line), 4)
        self.refused(self.block("wheels", "wheels"), 2)
        self.refused(self.block("wheels a", "window 1 2"), 2)
        self.refused(self.block("wheels a", "never"), 2)
        self.refused(self.rule("wheels a", "ticks 2"), 5)
        self.refused(self.rule("wheels", "wheels"), 5)

    def test_doubtful(self):
        self.refused(self.block("doubtful 1"), 1)
        self.refused(self.block("doubtful "), 1)
        self.refused(self.block("doubtful", "doubtful"), 2)
        self.refused(self.block("doubtful", "wheels"), 2)
        self.refused(self.rule("doubtful"), 4)

    def test_lines_of_turns(self):
        for line in ("turn", "turn ab", "turn ab bc ca", "turn ab ab", "turn bc ab", "turn ab x", "turn x ab", "turn x y", "turn AB bc"):
            self.refused(ROADS + line + "\nwheels\nend\n", 3)
        self.refused("turn ab bc\nwheels\nend\n", 0)
        self.refused("road aa a a\nturn aa aa\nwheels\nend\n", 1)

    def test_rules_in_order_and_once(self):
        two = ROADS + "turn bc ca\nwheels\n"
        self.refused(two + "turn ab bc\nwheels\nend\n", 5)
        self.refused(two + "turn bc ca\nticks 2\nend\n", 5)
        self.refused(two + "road d d d\nend\n", 5)
        Chart.read(two + "turn ca ab\nticks 2\nend\n")

    def test_empty_rules(self):
        self.refused(ROADS + "turn ab bc\nend\n", 4)
        self.refused(ROADS + "turn ab bc\nturn bc ca\nticks 2\nend\n", 4)
        self.refused(ROADS + "turn ab bc\n", 4)
        self.refused(ROADS + "turn ab bc\nroad d d d\nend\n", 4)
        self.refused(ROADS + "turn ab bc\nticks 2\nturn bc ca\nend\n", 6)

    def test_too_many_roads(self):
        names = [one + two + three for one in "ab" for two in "abcdefghij" for three in "abcdefghij"]
        lines = [f"road {name} a b\n" for name in names]
        self.assertEqual(len(Chart.read("".join(lines[:120]) + "end\n")), 120)
        self.refused("".join(lines[:121]) + "end\n", 120)
        self.refused("".join(lines[:121]), 120)
        self.refused("".join(lines[:122]) + "end\n", 120)

    def test_too_many_turns(self):
        # 25 roads from a place to itself are 600 turns.
        names = ["x" + one + two for one in "abcde" for two in "abcde"]
        lines = [f"road {name} a a\n" for name in names] + ["road y b c\n"]
        self.assertEqual(len(Chart.read("".join(lines) + "end\n").turns()), 600)
        for more in ("road z a d\n", "road z d a\n", "road z a a\n", "road z c d\n", "road z d b\n"):
            self.refused("".join(lines) + more + "end\n", 26)
        self.assertEqual(len(Chart.read("".join(lines) + "road z c b\nend\n".replace("c b", "d c")).turns()), 600)


class Many(TestCase):
    def test_texts_by_hand(self):
        for chart in some_charts(2, 60):
            text = written(chart.roads(), chart.rules())
            self.assertEqual(chart.text(), text)
            self.assertEqual(Chart.read(text), chart)
            self.assertTrue(is_text(text))

    def test_bent_texts(self):
        random = Random(3)
        more = ["end", "never", "doubtful", "wheels", "wheels car", "width 1", "ticks 1", "ticks 0", "price cost 0", "price a 1", ""]
        for chart in some_charts(4, 120, 4):
            lines = chart.text().split("\n")[:-1]
            for _ in range(6):
                bent = list(lines)
                at, other = random.randrange(len(bent)), random.randrange(len(bent))
                deed = random.randrange(5)
                if deed == 0:
                    bent.insert(at, bent[other])
                elif deed == 1:
                    bent[at], bent[other] = bent[other], bent[at]
                elif deed == 2:
                    del bent[at]
                elif deed == 3:
                    bent.insert(at, random.choice(more))
                else:
                    words = bent[at].split(" ")
                    words[random.randrange(len(words))] = random.choice(["0", "1", "01", "ab", "a", "x", "97", "car", "road", "turn", ""])
                    bent[at] = " ".join(words)
                text = "".join(line + "\n" for line in bent)
                wanted = first_bad_line(text)
                if wanted is None:
                    self.assertEqual(Chart.read(text).text(), text)
                else:
                    with self.assertRaises(BadText, msg=text) as caught:
                        Chart.read(text)
                    self.assertEqual(caught.exception.line, wanted, text)


if __name__ == "__main__":
    main()

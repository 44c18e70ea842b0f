"""[8]: lines that alone are least, and Dial."""

from fractions import Fraction
from itertools import combinations_with_replacement, product
from random import Random
from unittest import TestCase, main

from feeblind.dials import Dial, lowest_lines
from feeblind.errors import BadMeasure, BadName
from tests.oracles import ODD, bent, lowest, meetings, read
from tests.samples import dial_values, some_rows


class LowestLines(TestCase):
    def test_the_example_of_the_document(self):
        self.assertEqual(lowest_lines([(5, 0), (4, 1), (6, 0)], 3), ((4, 1), (5, 0)))

    def test_no_lines(self):
        self.assertIsNone(lowest_lines([], 3))

    def test_one_line(self):
        self.assertEqual(lowest_lines([(4, 7)], 3), ((4, 7),))

    def test_equal_lines_stand_once(self):
        self.assertEqual(lowest_lines([(4, 7), (4, 7)], 3), ((4, 7),))

    def test_lines_that_meet_at_0(self):
        self.assertEqual(lowest_lines([(4, 2), (4, 1)], 3), ((4, 1),))
        self.assertEqual(lowest_lines([(4, 1), (4, 2), (4, 0)], 3), ((4, 0),))

    def test_lines_that_meet_at_top(self):
        self.assertEqual(lowest_lines([(4, 1), (7, 0)], 3), ((4, 1),))
        self.assertEqual(lowest_lines([(4, 1), (7, 0)], 4), ((4, 1), (7, 0)))
        self.assertEqual(lowest_lines([(4, 1), (7, 0)], 2), ((4, 1),))

    def test_lines_that_meet_next_to_top(self):
        self.assertEqual(lowest_lines([(0, 2), (5, 0)], 3), ((0, 2), (5, 0)))
        self.assertEqual(lowest_lines([(0, 2), (7, 0)], 3), ((0, 2),))

    def test_lines_that_meet_in_one_point(self):
        self.assertEqual(lowest_lines([(0, 2), (1, 1), (2, 0)], 3), ((0, 2), (2, 0)))
        self.assertEqual(lowest_lines([(0, 3), (1, 2), (2, 1), (3, 0)], 9), ((0, 3), (3, 0)))

    def test_lines_that_meet_between_whole_settings(self):
        self.assertEqual(lowest_lines([(0, 3), (1, 1), (2, 0)], 3), ((0, 3), (1, 1), (2, 0)))
        self.assertEqual(lowest_lines([(0, 2), (1, 0)], 1), ((0, 2), (1, 0)))
        self.assertEqual(lowest_lines([(0, 1000000), (1, 0)], 1), ((0, 1000000), (1, 0)))

    def test_one_slope_twice(self):
        self.assertEqual(lowest_lines([(3, 1), (4, 1)], 3), ((3, 1),))
        self.assertEqual(lowest_lines([(4, 1), (3, 1), (5, 0)], 3), ((3, 1), (5, 0)))

    def test_a_line_that_is_nowhere_least(self):
        self.assertEqual(lowest_lines([(0, 4), (5, 3), (6, 0)], 9), ((0, 4), (6, 0)))

    def test_several_lines_beaten_by_one(self):
        self.assertEqual(lowest_lines([(0, 9), (4, 7), (7, 6), (9, 5), (10, 0)], 9), ((0, 9), (10, 0)))

    def test_a_line_that_comes_too_late_and_one_behind_it_in_time(self):
        self.assertEqual(lowest_lines([(0, 9), (28, 2), (29, 0)], 4), ((0, 9), (29, 0)))
        self.assertEqual(lowest_lines([(0, 9), (28, 2), (29, 0)], 3), ((0, 9),))

    def test_b_falls(self):
        self.assertEqual(lowest_lines([(100, 0), (0, 10), (9, 9), (30, 5)], 50), ((0, 10), (30, 5), (100, 0)))

    def test_all_lots_of_small_lines(self):
        lines = list(product(range(4), range(4)))
        for lot in combinations_with_replacement(lines, 3):
            for top in (1, 2, 3):
                self.assertEqual(lowest_lines(list(lot)[::-1], top), lowest(list(lot), top), (lot, top))

    def test_many_lines(self):
        random = Random(3)
        for _ in range(400):
            lines = some_rows(random, 2, random.choice((5, 12, 60)), random.randint(0, 8))
            top = random.choice((1, 2, 3, 7, 40, 1000000))
            self.assertEqual(lowest_lines(lines, top), lowest(lines, top), (lines, top))

    def test_what_is_passed_is_unchanged_and_may_be_a_tuple(self):
        lines = [(5, 0), (4, 1), (6, 0)]
        self.assertEqual(lowest_lines(lines=tuple(lines), top=3), lowest_lines(lines, 3))
        self.assertEqual(lines, [(5, 0), (4, 1), (6, 0)])


class OfDial(TestCase):
    def wrong(self, *values):
        with self.assertRaises((BadName, BadMeasure)) as caught:
            Dial(*values)
        return caught.exception

    def test_attributes(self):
        dial = Dial(top=5, slope="toll", wish="cost")
        self.assertEqual((dial.wish, dial.slope, dial.top, dial.stay), ("cost", "toll", 5, ((0, 0),)))

    def test_both_wishes_may_be_one(self):
        self.assertEqual(repr(Dial("cost", "cost", 1)), "Dial(cost, cost, 1)")

    def test_wrong_wish(self):
        for value in ODD:
            if value not in ("a", "car", "abcdefgh"):
                error = self.wrong(value, value, value)
                self.assertEqual(error.code, "BadName")
                self.assertIs(error.value, value)
                self.assertIs(self.wrong("cost", value, 0).value, value)

    def test_first_error_counts(self):
        self.assertEqual(self.wrong("A", "B", 0).value, "A")
        self.assertEqual(self.wrong("a", "B", 0).value, "B")
        self.assertEqual(self.wrong("a", "b", 0).what, "top")

    def test_top(self):
        for top in (1, 2, 999999, 1000000):
            self.assertEqual(Dial("a", "b", top).top, top)
        for top in [0, -1, 1000001, True, False] + [value for value in ODD if value not in (1, 7)]:
            error = self.wrong("a", "b", top)
            self.assertEqual((error.code, error.what), ("BadMeasure", "top"))

    def test_best(self):
        self.assertEqual(Dial("a", "b", 3).best(((4, 1), (5, 0)), ((2, 5),)), ((2, 5), (4, 1), (5, 0)))
        self.assertEqual(Dial("a", "b", 3).best(((4, 1), (5, 0)), ((2, 3),)), ((2, 3), (5, 0)))
        self.assertEqual(Dial("a", "b", 3).best(((4, 2),), ((4, 1),)), ((4, 1),))

    def test_then(self):
        self.assertEqual(Dial("a", "b", 3).then(((4, 1), (5, 0)), ((0, 2), (3, 0))), ((4, 3), (5, 2), (8, 0)))

    def test_best_and_then_at_each_setting(self):
        for top in (1, 3, 1000000):
            dial = Dial("a", "b", top)
            for one, other in product(dial_values(top), repeat=2):
                best, joined = dial.best(one, other), dial.then(one, other)
                settings = meetings(one + other, top)
                for setting in settings + [(low + high) / 2 for low, high in zip(settings, settings[1:])]:
                    self.assertEqual(read(best, setting), min(read(one, setting), read(other, setting)))
                    self.assertEqual(read(joined, setting), read(one, setting) + read(other, setting))
                self.assertEqual(best, lowest(list(one + other), top))
                self.assertEqual(joined, lowest([(a + c, b + d) for a, b in one for c, d in other], top))

    def test_values(self):
        for value in (((0, 0),), ((4, 1), (5, 0)), ((0, 3), (1, 1), (2, 0)), ((0, 10 ** 12), (10 ** 9, 5))):
            self.assertIs(Dial("a", "b", 3).is_value(value), True, value)

    def test_values_hang_on_top(self):
        told = [Dial("a", "b", top).is_value(((4, 1), (7, 0))) for top in (1, 2, 3, 4, 1000000)]
        self.assertEqual(told, [False, False, False, True, True])

    def test_no_values(self):
        for value in [
            (), ((),), (0, 0), ((5, 0), (4, 1)), ((4, 1), (4, 1)), ((4, 2), (4, 1)), ((3, 1), (4, 1)), ((4, 1), (5, 1)),
            ((0, 2), (1, 1), (2, 0)), ((4, 1), (7, 0)), ((1,),), ((1, 2, 3),), ((4, 1), (5,)), [(4, 1)], ([4, 1],),
            ((True, 0),), ((0, False),), ((0, -1),), ((-1, 0),), ((4, 1), (5, None)), ((4, "1"),), ((4, (1,)),), "ab",
            ((Fraction(1), 0),),
        ]:
            self.assertIs(Dial("a", "b", 3).is_value(value), False, value)

    def test_values_with_one_part_bent(self):
        for top in (1, 3, 1000000):
            dial = Dial("a", "b", top)
            for value in dial_values(top):
                self.assertIs(dial.is_value(value), True)
                for worse in bent(value):
                    self.assertIs(dial.is_value(worse), False, worse)
                if len(value) > 1:
                    self.assertIs(dial.is_value(value[::-1]), False)

    def test_equal(self):
        self.assertEqual(Dial("a", "b", 3), Dial("a", "b", 3))
        for other in (Dial("b", "a", 3), Dial("a", "b", 4), Dial("a", "a", 3), Dial("b", "b", 3), ("a", "b", 3)):
            self.assertIs(Dial("a", "b", 3) == other, False)

    def test_repr(self):
        self.assertEqual(repr(Dial("cost", "toll", 5)), "Dial(cost, toll, 5)")


if __name__ == "__main__":
    main()

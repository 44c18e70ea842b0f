"""[8], [10] and [43]: the hours of a day."""

from copy import deepcopy
from itertools import product
from random import Random
from unittest import TestCase, main

from feeblind.errors import BadMeasure
from feeblind.hours import Hours, hours_of, latest_begin, read_hours
from feeblind.measures import Measure
from tests.oracles import ODD, bent, walked
from tests.samples import hours_values

DAYS = (1, 2, 3, 6, 24, 95, 96)


def some_windows(random):
    """A list of windows, none of which touches another one."""
    found, least = [], 0
    while random.random() < 0.7 and least < 95:
        first = random.randint(least, min(95, least + 20))
        behind = random.randint(first + 1, min(96, first + 15))
        found.append((first, behind))
        least = behind + 1
    return found


class HoursOf(TestCase):
    def check(self, day, windows, ticks):
        wanted = [walked(day, windows, ticks, t) for t in range(day)]
        told = hours_of(day, windows, ticks)
        self.assertEqual(told, None if None in wanted else tuple(wanted), (day, windows, ticks))
        if told is not None:
            self.assertIs(Hours(day).is_value(told), True)

    def test_the_example_of_the_document(self):
        self.assertEqual(hours_of(6, [(1, 2)], 1), (2, 2, 8, 8, 8, 8))
        self.assertEqual(hours_of(6, [(2, 4)], 1), (3, 3, 3, 4, 9, 9))
        self.assertEqual(hours_of(6, None, 3), (3, 4, 5, 6, 7, 8))

    def test_no_windows_to_keep_to(self):
        for day in DAYS:
            for ticks in (0, 1, 959, 960):
                self.assertEqual(hours_of(day, None, ticks), tuple(t + ticks for t in range(day)))

    def test_the_empty_list_is_never_open(self):
        for day in DAYS:
            self.assertIsNone(hours_of(day, [], 1))
            self.assertIsNone(hours_of(day, (), 0))

    def test_windows_that_end_at_the_day(self):
        self.assertEqual(hours_of(6, [(4, 6)], 0), (4, 4, 4, 4, 4, 5))
        self.assertEqual(hours_of(6, [(0, 6)], 2), (2, 3, 4, 5, 6, 7))
        self.assertEqual(hours_of(6, [(5, 6)], 0), (5, 5, 5, 5, 5, 5))

    def test_windows_that_end_behind_the_day(self):
        self.assertEqual(hours_of(6, [(4, 96)], 0), (4, 4, 4, 4, 4, 5))
        self.assertEqual(hours_of(6, [(1, 2), (5, 9)], 0), (1, 1, 5, 5, 5, 5))

    def test_windows_that_lie_behind_the_day(self):
        self.assertIsNone(hours_of(6, [(6, 7)], 0))
        self.assertIsNone(hours_of(1, [(1, 96)], 0))
        self.assertEqual(hours_of(6, [(1, 2), (6, 7), (8, 96)], 0), (1, 1, 7, 7, 7, 7))

    def test_the_next_day(self):
        self.assertEqual(hours_of(4, [(0, 1)], 0), (0, 4, 4, 4))
        self.assertEqual(hours_of(4, [(0, 1)], 960), (960, 964, 964, 964))

    def test_days_of_1_and_96(self):
        self.assertEqual(hours_of(1, [(0, 1)], 5), (5,))
        self.assertEqual(hours_of(96, [(95, 96)], 1), (96,) * 96)
        self.assertEqual(hours_of(96, [(0, 1)], 0), (0,) + (96,) * 95)
        self.assertEqual(hours_of(96, [(0, 96)], 0), tuple(range(96)))

    def test_against_a_walk_time_by_time(self):
        random = Random(5)
        for day in DAYS:
            for _ in range(60):
                self.check(day, some_windows(random), random.choice((0, 1, 2, 30, 960)))

    def test_all_windows_of_short_days(self):
        for day in (1, 2, 3, 4):
            pairs = [(first, behind) for first in range(6) for behind in range(first + 1, 7)]
            for one, other in product(pairs, repeat=2):
                self.check(day, [one], 1)
                if other[0] > one[1]:
                    self.check(day, [one, other], 2)

    def test_what_is_passed_is_unchanged(self):
        windows = [(1, 2), (4, 5)]
        self.assertEqual(hours_of(ticks=1, windows=windows, day=6), hours_of(6, tuple(windows), 1))
        self.assertEqual(windows, [(1, 2), (4, 5)])


class ReadHours(TestCase):
    def test_within_the_day(self):
        self.assertEqual([read_hours((3, 3, 5), t) for t in (0, 1, 2)], [3, 3, 5])

    def test_on_other_days(self):
        self.assertEqual([read_hours((3, 3, 5), t) for t in (3, 4, 5, 6, 302)], [6, 6, 8, 9, 305])

    def test_below_0(self):
        self.assertEqual([read_hours((3, 3, 5), t) for t in (-1, -2, -3, -4, -300)], [2, 0, 0, -1, -297])

    def test_the_example_of_the_document(self):
        self.assertEqual(read_hours((3, 3, 5, 7, 8, 9), 8), 11)

    def test_a_day_later(self):
        for day in (1, 2, 6, 96):
            for value in hours_values(day):
                self.assertEqual([read_hours(value, t) for t in range(day)], list(value))
                for t in list(range(-2 * day, 2 * day)) + [-1000000, 999999, 1000000]:
                    self.assertEqual(read_hours(value, t + day), read_hours(value, t) + day)

    def test_against_a_walk_at_any_time(self):
        windows = [(1, 2), (4, 5)]
        value = hours_of(7, windows, 3)
        for t in list(range(-20, 40)) + [-1000000, 1000000]:
            self.assertEqual(read_hours(value, t), walked(7, windows, 3, t))

    def test_by_name(self):
        self.assertEqual(read_hours(t=4, value=(3, 3, 5)), 6)


class LatestBegin(TestCase):
    def check(self, value, end):
        told = latest_begin(value, end)
        self.assertLessEqual(read_hours(value, told), end)
        # f does not fall, so no later time is through at the end if the next one is not.
        self.assertGreater(read_hours(value, told + 1), end)

    def test_by_hand(self):
        self.assertEqual([latest_begin((3, 3, 5), end) for end in range(9)], [-2, -2, -1, 1, 1, 2, 4, 4, 5])

    def test_may_be_below_0(self):
        self.assertEqual(latest_begin((960,), 0), -960)
        self.assertEqual(latest_begin((2, 2, 8, 8, 8, 8), 1), -5)

    def test_stay(self):
        for end in (-1000000, -7, -1, 0, 1, 5, 6, 1000000):
            self.assertEqual(latest_begin(tuple(range(6)), end), end)

    def test_each_end(self):
        for day in (1, 2, 6, 96):
            for value in hours_values(day):
                for end in list(range(-day - 3, 2 * day + 9)) + [-1000000, -999999, 999999, 1000000]:
                    self.check(value, end)

    def test_against_going_back_time_by_time(self):
        for value in hours_values(6):
            for end in range(-9, 25):
                wanted = next(t for t in range(end, end - 2000, -1) if read_hours(value, t) <= end)
                self.assertEqual(latest_begin(value, end), wanted)

    def test_by_name(self):
        self.assertEqual(latest_begin(end=4, value=(3, 3, 5)), 1)


class OfHours(TestCase):
    def test_day(self):
        for day in (1, 2, 95, 96):
            self.assertEqual(Hours(day=day).day, day)
        for day in [0, 97, -1, True, False] + [value for value in ODD if value not in (1, 7)]:
            with self.assertRaises(BadMeasure) as caught:
                Hours(day)
            self.assertEqual(caught.exception.what, "day")

    def test_stay(self):
        self.assertEqual([Hours(1).stay, Hours(4).stay], [(0,), (0, 1, 2, 3)])
        self.assertEqual(Hours(96).stay, tuple(range(96)))

    def test_best_is_the_earliest_at_each_time(self):
        self.assertEqual(Hours(3).best((3, 3, 3), (1, 3, 4)), (1, 3, 3))

    def test_then_goes_on_where_one_is_through(self):
        self.assertEqual(Hours(3).then((1, 2, 2), (5, 6, 7)), (6, 7, 7))
        self.assertEqual(Hours(3).then((3, 3, 5), (0, 3, 3)), (3, 3, 6))

    def test_then_at_each_time(self):
        for day in (1, 2, 6):
            hours = Hours(day)
            for one, other in product(hours_values(day), repeat=2):
                joined, best = hours.then(one, other), hours.best(one, other)
                for t in range(-day, 3 * day):
                    self.assertEqual(read_hours(joined, t), read_hours(other, read_hours(one, t)))
                    self.assertEqual(read_hours(best, t), min(read_hours(one, t), read_hours(other, t)))

    def test_then_of_roads_against_a_walk(self):
        random = Random(6)
        for day in (2, 6, 24):
            for _ in range(30):
                roads = [(some_windows(random), random.randint(0, 9)) for _ in range(2)]
                values = [hours_of(day, windows, ticks) for windows, ticks in roads]
                if None not in values:
                    wanted = tuple(walked(day, *roads[1], walked(day, *roads[0], t)) for t in range(day))
                    self.assertEqual(Hours(day).then(*values), wanted)

    def test_values(self):
        for value in ((0, 1, 2), (1, 1, 2), (3, 3, 3), (2, 2, 5), (2, 5, 5), (1000000, 1000001, 1000003)):
            self.assertIs(Hours(3).is_value(value), True, value)

    def test_no_values(self):
        for value in [
            (), (0, 1), (0, 1, 2, 3), (0, 0, 2), (0, 1, 1), (2, 1, 2), (3, 4, 3), (0, 2, 4), (2, 2, 6), [0, 1, 2], "012", None,
            (False, 1, 2), (0, True, 2), (0, 1, "2"), (0, 1, None), (-1, 1, 2), ((0, 1, 2),), (0, 1, (2,)), {0: 0, 1: 1, 2: 2},
        ]:
            self.assertIs(Hours(3).is_value(value), False, value)

    def test_next_to_the_last_bound(self):
        self.assertIs(Hours(3).is_value((0, 1, 3)), True)
        self.assertIs(Hours(3).is_value((0, 1, 4)), False)
        self.assertIs(Hours(1).is_value((0,)), True)
        self.assertIs(Hours(1).is_value((5,)), True)

    def test_values_with_one_part_bent(self):
        for day in (1, 2, 6):
            for value in hours_values(day):
                self.assertIs(Hours(day).is_value(value), True)
                for worse in bent(value):
                    self.assertIs(Hours(day).is_value(worse), False, worse)
                self.assertIs(Hours(day + 1).is_value(value), False)

    def test_values_are_unchanged(self):
        values = hours_values(6)
        before = deepcopy(values)
        for one, other in product(values, repeat=2):
            Hours(6).then(one, other)
            latest_begin(one, 7)
            read_hours(one, -7)
        self.assertEqual(values, before)

    def test_equal(self):
        self.assertEqual(Hours(6), Hours(6))
        self.assertIs(Hours(6) == Hours(7), False)
        self.assertIs(Hours(6) == 6, False)

    def test_repr_and_base(self):
        self.assertEqual((repr(Hours(24)), Hours.__bases__), ("Hours(24)", (Measure,)))


if __name__ == "__main__":
    main()

"""[3] and [4]: roads and rules."""

from copy import deepcopy
from itertools import product
from unittest import TestCase, main

from feeblind.errors import BadFee, BadName, BadPair, ChartError
from feeblind.roads import Road, Rule
from tests.oracles import ODD

NAMES = ("a", "car", "abcdefgh")
FEES = {
    "prices": {"cost": 3, "toll": 0, "abc": 1000000}, "width": 5, "ticks": 7, "mark": "red", "windows": [(1, 2), (4, 96)],
    "wheels": ["van", "car", "van"], "doubtful": True,
}
GOOD = {
    "prices": [None, {}, {"a": 0}, {"abcdefgh": 1000000, "b": 999999, "c": 1}],
    "width": [1, 2, 999999, 1000000],
    "ticks": [0, 1, 959, 960],
    "mark": [None, "a", "abcdefgh"],
    "windows": [
        None, [], (), [(0, 1)], [(0, 96)], [(95, 96)], [(0, 1), (2, 3)], ((1, 2), (3, 4), (5, 96)), [(0, 94), (95, 96)],
    ],
    "wheels": [None, [], (), ["car"], ("car", "van"), ["van", "car"], ["car", "car"], ["abcdefgh"]],
    "doubtful": [True, False],
}
WRONG = {
    "prices": [
        [], [("a", 1)], "a", 0, True, False, (), {"a": -1}, {"a": 1000001}, {"a": True}, {"a": False}, {"a": None}, {"a": "1"},
        {"A": 1}, {"": 1}, {"abcdefghi": 1}, {1: 1}, {None: 1}, {("a",): 1}, {"a": 1, "B": 2}, {"a": 1, "b": [2]},
    ],
    "width": [0, -1, 1000001, None, True, False, "1", [1], (1,), {}],
    "ticks": [-1, 961, None, True, False, "1", [1], (1,), {}],
    "mark": ["", "A", "abcdefghi", 1, 0, True, False, ["a"], ("a",), {}],
    "windows": [
        "ab", 0, True, False, {}, {(1, 2): 1}, [[1, 2]], ([1, 2],), (1, 2), [1, 2], [(1,)], [(1, 2, 3)], [()], [(2, 2)], [(3, 2)],
        [(-1, 2)], [(0, 97)], [(96, 97)], [(96, 96)], [(True, 2)], [(0, True)], [(False, 2)], [("0", 2)], [(0, None)], [(None, 2)],
        [(0, 2), (2, 3)], [(0, 2), (1, 3)], [(4, 5), (1, 2)], [(1, 2), (1, 2)], [(1, 5), (2, 3)], [(1, 2), None], [None],
        [(1, 2), (4, 6), (6, 7)], [(1, 2), (3, 4), (3, 5)], [(1, 2), [3, 4]], ["ab"],
    ],
    "wheels": [
        "car", "", 0, 1, True, False, {}, {"car": 1}, ["A"], [""], ["abcdefghi"], [1], [None], [True], [["car"]], [("car",)],
        ["car", "A"], ("car", 1), ("Car",),
    ],
    "doubtful": [None, 0, 1, "", "True", [], [True], (), {}],
}


def road(**fees):
    """A road with some fees."""
    return Road("r", "a", "b", **fees)


def rule(**fees):
    """A rule with some fees."""
    return Rule("r", "s", **fees)


class OfRoad(TestCase):
    def wrong(self, *values, **fees):
        with self.assertRaises(ChartError) as caught:
            Road(*values, **fees)
        return caught.exception

    def test_names(self):
        made = Road("r", "a", "b")
        self.assertEqual((made.name, made.tail, made.head), ("r", "a", "b"))
        made = Road(head="abcdefgh", tail="abcdefgh", name="abcdefgh")
        self.assertEqual((made.name, made.tail, made.head), ("abcdefgh",) * 3)

    def test_tail_and_head_may_be_one_place(self):
        self.assertEqual(repr(Road("r", "a", "a")), "Road(r, a to a)")

    def test_defaults(self):
        made = Road("r", "a", "b")
        self.assertEqual((made.width, made.ticks, made.mark, made.doubtful), (1, 1, None, False))
        self.assertEqual((made.prices(), made.windows(), made.wheels()), ({}, None, None))

    def test_what_is_told(self):
        made = road(**FEES)
        self.assertEqual((made.width, made.ticks, made.mark, made.doubtful), (5, 7, "red", True))
        self.assertEqual(list(made.prices().items()), [("abc", 1000000), ("cost", 3)])
        self.assertEqual((made.windows(), made.wheels()), ([(1, 2), (4, 96)], ["car", "van"]))

    def test_attributes_stand_on_each_object(self):
        listed = {"name", "tail", "head", "width", "ticks", "mark", "doubtful"}
        self.assertLessEqual(listed, set(vars(Road("r", "a", "b"))))

    def test_wrong_names(self):
        for value in ODD + ["abcdefghi"]:
            if value in NAMES and isinstance(value, str):
                continue
            for at in range(3):
                names = ["r", "a", "b"]
                names[at] = value
                error = self.wrong(*names, width=0)
                self.assertEqual(error.code, "BadName")
                self.assertIs(error.value, value)

    def test_first_wrong_name_counts(self):
        self.assertEqual(self.wrong("R", "A", "B").value, "R")
        self.assertEqual(self.wrong("r", "A", "B", prices=3).value, "A")
        self.assertEqual(self.wrong("r", "a", "B", doubtful=3).value, "B")

    def test_good_fees(self):
        for what, values in GOOD.items():
            for value in values:
                made = road(**{what: value})
                self.assertEqual(made, road(**{what: value}))
                if what in ("width", "ticks", "mark", "doubtful"):
                    self.assertEqual(getattr(made, what), value)

    def test_wrong_fees(self):
        for what, values in WRONG.items():
            for value in values:
                error = self.wrong("r", "a", "b", **{what: value})
                self.assertIs(type(error), BadFee, (what, value))
                self.assertEqual(error.what, what)

    def test_any_value(self):
        fits = {
            "prices": [None, {}, {"a": 1}], "width": [1, 7], "ticks": [0, 1, 7], "mark": [None, *NAMES],
            "windows": [None, [], ()], "wheels": [None, [], (), ("a",), ("a", "b"), ["a"], ["a", "b"]], "doubtful": [True, False],
        }
        for what, good in fits.items():
            for value in ODD:
                if not any(type(value) is type(other) and value == other for other in good):
                    self.assertEqual(self.wrong("r", "a", "b", **{what: value}).what, what, value)

    def test_first_wrong_fee_counts(self):
        names = list(FEES)
        for at, what in enumerate(names):
            wrong = {name: WRONG[name][0] for name in names[at:]}
            self.assertEqual(self.wrong("r", "a", "b", **wrong).what, what)
            self.assertEqual(self.wrong("r", "a", "b", **dict(reversed(list(wrong.items())))).what, what)

    def test_two_wrong_fees(self):
        names = list(FEES)
        for i, j in product(range(len(names)), repeat=2):
            if i < j:
                wrong = {names[j]: WRONG[names[j]][-1], names[i]: WRONG[names[i]][-1]}
                self.assertEqual(self.wrong("r", "a", "b", **wrong).what, names[i])

    def test_fees_by_name_alone(self):
        with self.assertRaises(TypeError):
            Road("r", "a", "b", {})
        with self.assertRaises(TypeError):
            Road("r", "a", "b", None, 1)

    def test_price(self):
        made = road(prices={"cost": 3, "toll": 0})
        self.assertEqual([made.price("cost"), made.price("toll"), made.price("time"), made.price(wish="cost")], [3, 0, 0, 3])

    def test_prices_that_are_0_are_left_out(self):
        self.assertEqual(road(prices={"b": 0, "c": 2, "a": 1}).prices(), {"a": 1, "c": 2})
        self.assertEqual(list(road(prices={"c": 2, "b": 4, "a": 1}).prices()), ["a", "b", "c"])
        self.assertEqual(road(prices={"b": 0}), road())

    def test_wheels_in_any_order_and_twice(self):
        self.assertEqual(road(wheels=["van", "car", "van", "bus"]).wheels(), ["bus", "car", "van"])
        self.assertEqual(road(wheels=("car", "car")).wheels(), ["car"])
        self.assertEqual([road(wheels=[]).wheels(), road(wheels=None).wheels()], [[], None])

    def test_lets(self):
        told = [road(wheels=wheels).lets("car") for wheels in (None, [], ["van"], ["van", "car"])]
        self.assertEqual(told, [True, False, False, True])
        self.assertIs(road(wheels=["van"]).lets(wheel="van"), True)

    def test_windows_are_told_as_a_list(self):
        told = [road(windows=windows).windows() for windows in (None, [], (), ((1, 2), (3, 4)))]
        self.assertEqual(told, [None, [], [], [(1, 2), (3, 4)]])

    def test_open_at(self):
        made = road(windows=[(1, 2), (4, 6)])
        self.assertEqual([t for t in range(6) if made.open_at(t, 6)], [1, 4, 5])
        self.assertEqual([t for t in range(6, 12) if made.open_at(t, 6)], [7, 10, 11])
        self.assertEqual([t for t in range(-6, 0) if made.open_at(t, 6)], [-5, -2, -1])
        self.assertEqual([made.open_at(day=5, t=5), made.open_at(5, 5), made.open_at(6, 5)], [False, False, True])

    def test_open_at_without_windows(self):
        for t in (-1000000, -1, 0, 1, 96, 1000000):
            for day in (1, 5, 96):
                self.assertIs(road().open_at(t, day), True)
                self.assertIs(road(windows=[]).open_at(t, day), False)

    def test_open_at_is_the_same_on_all_days(self):
        for windows in GOOD["windows"][3:]:
            for day in (1, 2, 5, 95, 96):
                for t in range(-day, 2 * day):
                    wanted = any(first <= t % day < behind for first, behind in windows)
                    self.assertIs(road(windows=windows).open_at(t, day), wanted)

    def test_what_was_passed_is_unchanged_and_may_be_changed_afterwards(self):
        fees = deepcopy(FEES)
        made = road(**fees)
        self.assertEqual(fees, FEES)
        fees["prices"]["cost"] = 99
        fees["prices"]["new"] = 1
        fees["windows"].append((0, 0))
        fees["wheels"].clear()
        self.assertEqual(made, road(**FEES))
        self.assertEqual(made.price("new"), 0)

    def test_what_is_told_may_be_changed(self):
        made = road(**FEES)
        made.prices()["cost"] = 99
        made.windows().clear()
        made.wheels().append("x")
        self.assertEqual(made, road(**FEES))
        self.assertEqual([made.price("cost"), made.lets("x"), made.open_at(1, 96)], [3, False, True])

    def test_equal(self):
        self.assertEqual(road(**FEES), road(**FEES))
        self.assertEqual(road(wheels=["a", "b"]), road(wheels=("b", "a", "b")))
        self.assertEqual(road(windows=[(1, 2)]), road(windows=((1, 2),)))

    def test_unequal_in_one_part(self):
        others = {
            "prices": {"cost": 3}, "width": 6, "ticks": 6, "mark": None, "windows": None, "wheels": ["van"], "doubtful": False,
        }
        for what, value in others.items():
            self.assertIs(road(**FEES) == road(**{**FEES, what: value}), False, what)
            self.assertIs(road(**FEES) != road(**{**FEES, what: value}), True, what)
        for names in (("x", "a", "b"), ("r", "x", "b"), ("r", "a", "x")):
            self.assertIs(Road(*names) == road(), False)
        self.assertIs(road(windows=[]) == road(), False)
        self.assertIs(road(wheels=[]) == road(), False)

    def test_unequal_to_another_class(self):
        for value in ODD + [rule(), "Road(r, a to b)"]:
            self.assertIs(road() == value, False)

    def test_repr_and_truth(self):
        self.assertEqual(repr(road(**FEES)), "Road(r, a to b)")
        self.assertIs(bool(road()), True)


class OfRule(TestCase):
    def wrong(self, *values, **fees):
        with self.assertRaises(ChartError) as caught:
            Rule(*values, **fees)
        return caught.exception

    def test_names_and_defaults(self):
        made = Rule(target="s", source="r")
        self.assertEqual((made.source, made.target, made.ticks), ("r", "s", 0))
        self.assertEqual((made.prices(), made.wheels()), ({}, None))
        self.assertLessEqual({"source", "target", "ticks"}, set(vars(made)))

    def test_wrong_names(self):
        for value in ODD + ["abcdefghi"]:
            if value not in NAMES:
                for names in ((value, "s"), ("r", value), (value, value)):
                    error = self.wrong(*names, ticks=-1)
                    self.assertEqual(error.code, "BadName")
                    self.assertIs(error.value, value)
        self.assertEqual(self.wrong("R", "S").value, "R")

    def test_one_road_twice(self):
        error = self.wrong("r", "r", prices=3)
        self.assertIs(type(error), BadPair)
        self.assertEqual((error.source, error.target), ("r", "r"))
        self.assertIs(type(self.wrong("R", "R")), BadName)

    def test_good_fees(self):
        for what in ("prices", "ticks", "wheels"):
            for value in GOOD[what]:
                self.assertEqual(rule(**{what: value}), rule(**{what: value}))
        self.assertEqual([rule(ticks=ticks).ticks for ticks in (0, 1, 960)], [0, 1, 960])

    def test_wrong_fees(self):
        for what in ("prices", "ticks", "wheels"):
            for value in WRONG[what]:
                error = self.wrong("r", "s", **{what: value})
                self.assertIs(type(error), BadFee, (what, value))
                self.assertEqual(error.what, what)

    def test_first_wrong_fee_counts(self):
        self.assertEqual(self.wrong("r", "s", wheels="car", ticks=-1, prices=3).what, "prices")
        self.assertEqual(self.wrong("r", "s", wheels="car", ticks=-1).what, "ticks")
        self.assertEqual(self.wrong("r", "s", wheels="car", prices=3).what, "prices")

    def test_fees_by_name_alone(self):
        with self.assertRaises(TypeError):
            Rule("r", "s", {})

    def test_price_prices_wheels_lets(self):
        made = rule(prices={"toll": 0, "cost": 3, "abc": 1}, wheels=["van", "car", "van"])
        self.assertEqual([made.price("cost"), made.price("toll"), made.price(wish="time")], [3, 0, 0])
        self.assertEqual(list(made.prices().items()), [("abc", 1), ("cost", 3)])
        self.assertEqual(made.wheels(), ["car", "van"])
        self.assertEqual([made.lets("car"), made.lets(wheel="bus"), rule().lets("bus")], [True, False, True])
        self.assertIs(rule(wheels=[]).lets("car"), False)

    def test_empty(self):
        for fees in ({}, {"prices": None}, {"prices": {}}, {"prices": {"a": 0}}, {"ticks": 0, "wheels": None}):
            self.assertIs(rule(**fees).empty, True, fees)
        for fees in ({"prices": {"a": 1}}, {"prices": {"a": 0, "b": 1}}, {"ticks": 1}, {"wheels": []}, {"wheels": ["car"]}):
            self.assertIs(rule(**fees).empty, False, fees)

    def test_empty_is_a_property(self):
        self.assertIsInstance(Rule.empty, property)

    def test_what_was_passed_and_told_may_be_changed(self):
        prices, wheels = {"cost": 3}, ["van", "car"]
        made = rule(prices=prices, wheels=wheels)
        self.assertEqual((prices, wheels), ({"cost": 3}, ["van", "car"]))
        prices["cost"] = 99
        wheels.clear()
        made.prices()["cost"] = 98
        made.wheels().clear()
        self.assertEqual((made.price("cost"), made.wheels(), made.lets("car")), (3, ["car", "van"], True))

    def test_equal(self):
        fees = {"prices": {"cost": 3}, "ticks": 5, "wheels": ["car"]}
        self.assertEqual(rule(**fees), rule(**fees))
        self.assertEqual(rule(prices={"a": 0}, wheels=["b", "a"]), rule(wheels=("a", "b", "a")))
        for what, value in (("prices", {"cost": 4}), ("prices", None), ("ticks", 6), ("wheels", None), ("wheels", [])):
            self.assertIs(rule(**fees) == rule(**{**fees, what: value}), False, what)
        self.assertIs(Rule("r", "t") == rule(), False)
        self.assertIs(Rule("t", "s") == rule(), False)
        for value in ODD + [road(), "Rule(r to s)"]:
            self.assertIs(rule() == value, False)

    def test_repr_and_truth(self):
        self.assertEqual(repr(rule(ticks=3)), "Rule(r to s)")
        self.assertIs(bool(rule()), True)


if __name__ == "__main__":
    main()

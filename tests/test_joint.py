"""[8]: Several measures side by side, and a First price with an inner measure behind it."""

from unittest import TestCase, main

from feeblind.dials import Dial
from feeblind.errors import BadMeasure, BadName
from feeblind.hours import Hours
from feeblind.joint import First, Several
from feeblind.measures import Measure, Price, Width
from feeblind.names import PLENTY
from feeblind.rows import Open, Trade
from feeblind.told import Told
from tests.oracles import ODD, bent
from tests.samples import capped, first_samples, several_samples

INNER = [Price("cost"), Width(), Trade("cost", "time"), Open("cost"), Dial("cost", "toll", 3), Hours(6)]
TOLD = capped(["a", "b"])


class OfSeveral(TestCase):
    def wrong(self, *measures):
        with self.assertRaises(BadMeasure) as caught:
            Several(*measures)
        return caught.exception.what

    def test_many(self):
        self.assertEqual([self.wrong(), self.wrong(Price("a")), self.wrong(*[Width()] * 5)], ["many"] * 3)
        self.assertEqual([self.wrong(3), self.wrong(None, *ODD)], ["many"] * 2)
        for many in (2, 3, 4):
            self.assertEqual(len(Several(*[Width()] * many).measures()), many)

    def test_inner(self):
        within = Several(Width(), Width())
        for value in [value for value in ODD if not isinstance(value, Measure)] + [within, Price, Width]:
            self.assertEqual(self.wrong(Width(), value), "inner")
            self.assertEqual(self.wrong(value, Width()), "inner")
            self.assertEqual(self.wrong(Width(), Width(), Width(), value), "inner")

    def test_each_other_measure_may_stand_within(self):
        for inner in INNER + [TOLD, First("toll", Width())]:
            self.assertEqual(Several(inner, Width()).measures(), [inner, Width()])

    def test_measures_are_told_new(self):
        several = Several(Price("a"), Width())
        several.measures().clear()
        self.assertEqual(several.measures(), [Price("a"), Width()])
        self.assertIs(type(several.measures()), list)

    def test_stay(self):
        self.assertEqual(Several(Price("a"), Width(), TOLD).stay, (0, PLENTY, "a"))
        self.assertEqual(Several(Open("a"), First("a", Hours(2))).stay, (((0, ()),), (0, (0, 1))))

    def test_best(self):
        several = Several(Price("a"), Width())
        self.assertEqual(several.best((3, 5), (4, 7)), (3, 7))

    def test_best_with_None_on_some_sides(self):
        several = Several(Price("a"), Width())
        self.assertEqual(several.best((3, None), (None, 7)), (3, 7))
        self.assertEqual(several.best((None, 2), (None, 7)), (None, 7))
        self.assertEqual(several.best((None, 2), (1, None)), (1, 2))
        self.assertEqual(several.best((None, 2), None), (None, 2))

    def test_then(self):
        several = Several(Price("a"), Width())
        self.assertEqual(several.then((3, 5), (4, 7)), (7, 5))

    def test_then_with_None_on_some_sides(self):
        several = Several(Price("a"), Width())
        self.assertEqual(several.then((3, None), (4, 7)), (7, None))
        self.assertEqual(several.then((3, 9), (None, 7)), (None, 7))
        self.assertEqual(several.then((None, 2), (None, 7)), (None, 2))

    def test_then_with_None_on_all_sides(self):
        several = Several(Price("a"), Width())
        self.assertIsNone(several.then((3, None), (None, 7)))
        self.assertIsNone(several.then((None, 5), (4, None)))
        self.assertIsNone(Several(Width(), Width(), Width()).then((3, None, 2), (None, 7, None)))

    def test_item_by_item(self):
        for measure, values in several_samples():
            for one in values:
                for other in values:
                    parts = list(zip(measure.measures(), one, other))
                    best = tuple(part.best(left, right) for part, left, right in parts)
                    then = tuple(part.then(left, right) for part, left, right in parts)
                    self.assertEqual(measure.best(one, other), best)
                    self.assertEqual(measure.then(one, other), None if set(then) == {None} else then)

    def test_no_worse(self):
        several = Several(Price("a"), Width())
        told = [several.no_worse((3, 5), other) for other in ((4, 4), (2, 4), (None, 5), (3, None), (3, 5), None)]
        self.assertEqual(told, [True, False, True, True, True, True])
        self.assertIs(several.no_worse((3, None), (3, 5)), False)

    def test_values(self):
        several = Several(Price("a"), Width())
        for value in ((0, 1), (None, 1), (0, None), (10 ** 12, PLENTY)):
            self.assertIs(several.is_value(value), True)
        for value in [
            (None, None), (0, 0), (-1, 1), (0,), (0, 1, 2), (), [0, 1], (True, 1), (0, True), (None, 0), ("a", 1), None, 0,
            ((0, 1),), {0: 0, 1: 1}, (None, None, None), (0, PLENTY + 1), (None,), (None, False),
        ]:
            self.assertIs(several.is_value(value), False, value)

    def test_values_with_one_part_bent(self):
        for measure, values in several_samples():
            for value in values:
                self.assertIs(measure.is_value(value), True)
                for worse in bent(value):
                    # None in the place of an item is a value again.
                    if not (isinstance(worse, tuple) and None in worse):
                        self.assertIs(measure.is_value(worse), False, (measure, worse))
            self.assertIs(measure.is_value((None,) * len(measure.measures())), False)

    def test_equal(self):
        self.assertEqual(Several(Price("a"), Width()), Several(Price("a"), Width()))
        for other in (
            Several(Width(), Price("a")), Several(Price("b"), Width()), Several(Price("a"), Width(), Width()), Price("a"),
            [Price("a"), Width()], First("a", Width()),
        ):
            self.assertIs(Several(Price("a"), Width()) == other, False)

    def test_repr(self):
        self.assertEqual(repr(Several(Price("cost"), Width())), "Several(Price(cost), Width())")
        self.assertEqual(repr(Several(TOLD, First("a", Hours(2)))), "Several(Told(a, b), First(a, Hours(2)))")
        self.assertEqual(Several.__bases__, (Measure,))


class OfFirst(TestCase):
    def test_wrong_wish(self):
        for value in ODD:
            if value not in ("a", "car", "abcdefgh"):
                with self.assertRaises(BadName) as caught:
                    First(value, value)
                self.assertIs(caught.exception.value, value)

    def test_wrong_inner(self):
        within = [TOLD, Several(Width(), Width()), First("a", Width()), Measure(), Price, Width]
        for value in [value for value in ODD if not isinstance(value, Price)] + within:
            with self.assertRaises(BadMeasure) as caught:
                First("a", value)
            self.assertEqual(caught.exception.what, "inner")

    def test_attributes(self):
        for inner in INNER:
            first = First(inner=inner, wish="toll")
            self.assertEqual((first.wish, first.inner, first.stay), ("toll", inner, (0, inner.stay)))

    def test_best_is_the_lesser_price(self):
        first = First("toll", Width())
        self.assertEqual([first.best((2, 1), (3, 9)), first.best((3, 9), (2, 1))], [(2, 1), (2, 1)])

    def test_best_with_equal_prices(self):
        self.assertEqual(First("toll", Width()).best((2, 1), (2, 9)), (2, 9))
        self.assertEqual(First("toll", Price("a")).best((2, 1), (2, 9)), (2, 1))
        told = First("toll", Trade("a", "b")).best((2, ((1, 5),)), (2, ((4, 2),)))
        self.assertEqual(told, (2, ((1, 5), (4, 2))))

    def test_then(self):
        self.assertEqual(First("toll", Width()).then((2, 1), (3, 9)), (5, 1))
        self.assertEqual(First("toll", Hours(2)).then((2, (1, 2)), (0, (1, 1))), (2, (1, 3)))

    def test_against_the_plain_way(self):
        for measure, values in first_samples():
            for one in values:
                for other in values:
                    inner = measure.inner.best(one[1], other[1])
                    wanted = (one[0], inner) if one[0] == other[0] else min(one, other, key=lambda value: value[0])
                    self.assertEqual(measure.best(one, other), wanted)
                    joined = (one[0] + other[0], measure.inner.then(one[1], other[1]))
                    self.assertEqual(measure.then(one, other), joined)

    def test_values(self):
        first = First("toll", Width())
        for value in ((0, 1), (10 ** 9, PLENTY)):
            self.assertIs(first.is_value(value), True)
        for value in [
            (0, 0), (-1, 1), (0,), (0, 1, 2), (), [0, 1], (True, 1), (False, 1), (0, True), (0, None), (None, 1), None, 0,
            ("0", 1), ((0, 1),), (0, (1,)), {0: 0, 1: 1},
        ]:
            self.assertIs(first.is_value(value), False, value)

    def test_values_with_one_part_bent(self):
        for measure, values in first_samples():
            for value in values:
                self.assertIs(measure.is_value(value), True)
                for worse in bent(value):
                    self.assertIs(measure.is_value(worse), False, (measure, worse))

    def test_equal(self):
        self.assertEqual(First("a", Price("b")), First("a", Price("b")))
        for other in (First("b", Price("b")), First("a", Price("a")), First("a", Width()), Price("a"), ("a", Price("b"))):
            self.assertIs(First("a", Price("b")) == other, False)

    def test_repr(self):
        self.assertEqual(repr(First("cost", Width())), "First(cost, Width())")
        self.assertEqual(repr(First("cost", Dial("a", "b", 5))), "First(cost, Dial(a, b, 5))")
        self.assertEqual(First.__bases__, (Measure,))


if __name__ == "__main__":
    main()

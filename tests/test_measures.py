"""[7] and [8]: what each measure is, and the two plainest ones."""

from copy import deepcopy
from unittest import TestCase, main

from feeblind.errors import BadName
from feeblind.measures import Measure, Price, Width
from feeblind.names import PLENTY
from tests.oracles import ODD, bent
from tests.samples import samples


class EachMeasure(TestCase):
    """What holds for all measures alike."""

    def each(self):
        for measure, values in samples():
            self.now = repr(measure)
            yield measure, values

    def _formatMessage(self, msg, standard):
        return f"{self.now}: {super()._formatMessage(msg, standard)}"

    def test_is_a_measure(self):
        for measure, _ in self.each():
            self.assertIsInstance(measure, Measure)
            self.assertIs(type(measure).__mro__[1], Measure)

    def test_stay_is_a_value_set_on_the_object(self):
        for measure, _ in self.each():
            self.assertIn("stay", vars(measure))
            self.assertIs(measure.is_value(measure.stay), True)

    def test_best_with_None(self):
        for measure, values in self.each():
            self.assertIsNone(measure.best(None, None))
            for value in values:
                self.assertEqual(measure.best(None, value), value)
                self.assertEqual(measure.best(value, None), value)

    def test_then_with_None(self):
        for measure, values in self.each():
            self.assertIsNone(measure.then(None, None))
            for value in values:
                self.assertIsNone(measure.then(None, value))
                self.assertIsNone(measure.then(value, None))

    def test_best_and_then_give_values(self):
        for measure, values in self.each():
            for one in values:
                for other in values:
                    self.assertIs(measure.is_value(measure.best(one, other)), True)
                    joined = measure.then(one, other)
                    self.assertTrue(joined is None or measure.is_value(joined), joined)

    def test_no_worse_is_what_best_tells(self):
        for measure, values in self.each():
            for one in values + [None]:
                for other in values + [None]:
                    self.assertIs(measure.no_worse(one, other), measure.best(one, other) == one)

    def test_no_worse_with_None(self):
        for measure, values in self.each():
            self.assertIs(measure.no_worse(None, None), True)
            for value in values:
                self.assertIs(measure.no_worse(value, None), True)
                self.assertIs(measure.no_worse(None, value), False)

    def test_is_value_of_its_values(self):
        for measure, values in self.each():
            for value in values:
                self.assertIs(measure.is_value(value), True, value)

    def test_is_value_of_None(self):
        for measure, _ in self.each():
            self.assertIs(measure.is_value(None), False)

    def test_is_value_of_any_value_is_True_or_False(self):
        for measure, _ in self.each():
            for value in ODD:
                self.assertIn(measure.is_value(value), (True, False))
                if isinstance(value, (list, dict, bool, Measure)):
                    self.assertIs(measure.is_value(value), False)

    def test_what_is_passed_is_unchanged(self):
        for measure, values in self.each():
            before = deepcopy(values)
            for one in values:
                for other in values:
                    measure.best(one, other)
                    measure.then(one, other)
                    measure.no_worse(one, other)
                    measure.is_value(one)
            self.assertEqual(values, before)

    def test_equal_calls_give_equal_results(self):
        for measure, values in self.each():
            for one in values:
                for other in values:
                    self.assertEqual(measure.best(one, other), measure.best(one, other))
                    self.assertEqual(measure.then(one, other), measure.then(one, other))

    def test_by_name(self):
        for measure, values in self.each():
            one, other = values[0], values[-1]
            self.assertEqual(measure.best(other=other, one=one), measure.best(one, other))
            self.assertEqual(measure.then(other=other, one=one), measure.then(one, other))
            self.assertEqual(measure.no_worse(other=other, one=one), measure.no_worse(one, other))
            self.assertIs(measure.is_value(value=one), True)

    def test_equal_to_its_like_alone(self):
        made, again = samples(), samples()
        for at, (measure, _) in enumerate(made):
            for place, (other, _) in enumerate(again):
                self.assertIs(measure == other, at == place, (measure, other))
                self.assertIs(measure != other, at != place, (measure, other))

    def test_equal_to_nothing_of_another_kind(self):
        for measure, values in self.each():
            for value in ODD + values + [repr(measure), [measure], type(measure)]:
                if not isinstance(value, Measure):
                    self.assertIs(measure == value, False)

    def test_is_true(self):
        for measure, _ in self.each():
            self.assertIs(bool(measure), True)


class Sentences(TestCase):
    """The eight sentences of [7], written out, over all values and None."""

    def check(self, left, right):
        for measure, values in samples():
            some = values + [None]
            for a in some:
                for b in some:
                    for c in some[:7] + [None]:
                        self.assertEqual(left(measure, a, b, c), right(measure, a, b, c), (measure, a, b, c))

    def test_right_unit(self):
        self.check(lambda m, a, b, c: m.then(a, m.stay), lambda m, a, b, c: a)

    def test_left_unit(self):
        self.check(lambda m, a, b, c: m.then(m.stay, a), lambda m, a, b, c: a)

    def test_order(self):
        self.check(lambda m, a, b, c: m.best(a, b), lambda m, a, b, c: m.best(b, a))

    def test_grouping(self):
        self.check(lambda m, a, b, c: m.best(m.best(a, b), c), lambda m, a, b, c: m.best(a, m.best(b, c)))

    def test_joining(self):
        self.check(lambda m, a, b, c: m.then(m.then(a, b), c), lambda m, a, b, c: m.then(a, m.then(b, c)))

    def test_ring(self):
        self.check(lambda m, a, b, c: m.best(m.stay, a), lambda m, a, b, c: m.stay)

    def test_left_sharing(self):
        self.check(lambda m, a, b, c: m.then(a, m.best(b, c)), lambda m, a, b, c: m.best(m.then(a, b), m.then(a, c)))

    def test_right_sharing(self):
        self.check(lambda m, a, b, c: m.then(m.best(a, b), c), lambda m, a, b, c: m.best(m.then(a, c), m.then(b, c)))

    def test_best_of_one_twice(self):
        self.check(lambda m, a, b, c: m.best(a, a), lambda m, a, b, c: a)


class OfPrice(TestCase):
    def test_best_is_the_least(self):
        price = Price("cost")
        self.assertEqual([price.best(2, 3), price.best(3, 2), price.best(4, 4), price.best(0, 9)], [2, 2, 4, 0])

    def test_then_is_the_sum(self):
        price = Price("cost")
        self.assertEqual([price.then(2, 3), price.then(0, 0), price.then(PLENTY, 1)], [5, 0, PLENTY + 1])

    def test_stay_and_wish(self):
        self.assertEqual((Price("toll").stay, Price(wish="toll").wish), (0, "toll"))

    def test_no_worse(self):
        price = Price("cost")
        self.assertEqual([price.no_worse(2, 3), price.no_worse(3, 3), price.no_worse(4, 3)], [True, True, False])

    def test_values(self):
        told = [Price("cost").is_value(value) for value in (-1, 0, 1, 10 ** 20)]
        self.assertEqual(told, [False, True, True, True])

    def test_values_of_another_kind(self):
        for value in [True, False] + bent(5):
            self.assertIs(Price("cost").is_value(value), False, value)
        for value in ODD:
            self.assertIs(Price("cost").is_value(value), str(value) in ("0", "1", "7", "1000001"))

    def test_wrong_wish(self):
        for value in ODD:
            if value not in ("a", "car", "abcdefgh"):
                with self.assertRaises(BadName) as caught:
                    Price(value)
                self.assertIs(caught.exception.value, value)

    def test_names_at_the_edge(self):
        for wish in ("a", "abcdefgh"):
            self.assertEqual(Price(wish).wish, wish)
        for wish in ("", "abcdefghi"):
            with self.assertRaises(BadName):
                Price(wish)

    def test_equal(self):
        self.assertEqual(Price("cost"), Price("cost"))
        self.assertNotEqual(Price("cost"), Price("toll"))
        self.assertNotEqual(Price("cost"), Width())

    def test_repr(self):
        self.assertEqual([repr(Price("cost")), repr(Price("toll"))], ["Price(cost)", "Price(toll)"])


class OfWidth(TestCase):
    def test_best_is_the_greatest(self):
        width = Width()
        self.assertEqual([width.best(2, 3), width.best(3, 2), width.best(4, 4)], [3, 3, 4])

    def test_then_is_the_least(self):
        width = Width()
        self.assertEqual([width.then(2, 3), width.then(3, 2), width.then(PLENTY, 7)], [2, 2, 7])

    def test_stay(self):
        self.assertEqual(Width().stay, 1000000000)

    def test_no_worse(self):
        width = Width()
        self.assertEqual([width.no_worse(2, 3), width.no_worse(3, 3), width.no_worse(4, 3)], [False, True, True])

    def test_values(self):
        told = [Width().is_value(value) for value in (-1, 0, 1, 2, PLENTY - 1, PLENTY, PLENTY + 1)]
        self.assertEqual(told, [False, False, True, True, True, True, False])

    def test_values_of_another_kind(self):
        for value in [True, False] + bent(5):
            self.assertIs(Width().is_value(value), False, value)

    def test_takes_nothing(self):
        with self.assertRaises(TypeError):
            Width(3)

    def test_equal(self):
        self.assertEqual(Width(), Width())
        self.assertNotEqual(Width(), Price("cost"))

    def test_repr(self):
        self.assertEqual(repr(Width()), "Width()")


class BaseClass(TestCase):
    def test_measures_stand_below_it(self):
        self.assertTrue(issubclass(Price, Measure) and issubclass(Width, Measure))


if __name__ == "__main__":
    main()

"""[9], [23], [26], [28], [33], [37], [42]: the verdicts, as far as their classes go."""

from unittest import TestCase, main

from feeblind import verdicts
from tests.oracles import ODD

TAKEN = {
    "MeasureTaken": [], "PlanTaken": ["needed", "spare"], "HubsTaken": ["size"], "BoundsTaken": [], "PaperTaken": [],
    "ClosingTaken": [], "DialTaken": [],
}
REFUSED = {
    "MeasureRefused": ["sentence", "one", "two", "three"], "PlanRefused": ["source", "target", "way"],
    "HubsRefused": ["source", "target", "way"], "BoundsRefused": ["source", "target"], "PaperRefused": ["what", "at"],
    "ClosingRefused": ["what"], "DialRefused": ["what", "at"],
}


def each():
    """Each class of a verdict with the names of its parameters."""
    for name, names in {**TAKEN, **REFUSED}.items():
        yield getattr(verdicts, name), names


class Verdicts(TestCase):
    def test_taken(self):
        for made, names in each():
            self.assertIs(made(*names).taken, made.__name__ in TAKEN)

    def test_attributes_stand_on_each_object(self):
        for made, names in each():
            self.assertLessEqual({"taken", *names}, set(vars(made(*names))))

    def test_by_place_and_by_name(self):
        for made, names in each():
            values = [name + "x" for name in names]
            for verdict in (made(*values), made(**dict(zip(names, values)))):
                self.assertEqual([getattr(verdict, name) for name in names], values)

    def test_wrong_number_of_values(self):
        for made, names in each():
            with self.assertRaises(TypeError):
                made(*names, 1)
            if names:
                with self.assertRaises(TypeError):
                    made(*names[1:])

    def test_values_are_kept_as_they_are(self):
        for made, names in each():
            for value in ODD:
                values = [value, [value], {"a": [value]}, (value, [1])][:len(names)]
                verdict = made(*values)
                for name, kept in zip(names, values):
                    self.assertIs(getattr(verdict, name), kept)

    def test_equal(self):
        for made, names in each():
            self.assertIs(made(*names) == made(*names), True)
            self.assertIs(made(*names) != made(*names), False)
            for value in ODD:
                values = [[value]] * len(names)
                self.assertIs(made(*values) == made(*[[value] for _ in names]), True)

    def test_unequal_in_one_attribute(self):
        for made, names in each():
            for at in range(len(names)):
                others = names[:at] + [None] + names[at + 1:]
                self.assertIs(made(*names) == made(*others), False)
                self.assertIs(made(*names) != made(*others), True)

    def test_unequal_to_another_class(self):
        for made, names in each():
            for other, more in each():
                if made is not other:
                    self.assertIs(made(*[1] * len(names)) == other(*[1] * len(more)), False)
            for value in ODD:
                self.assertIs(made(*names) == value, False)

    def test_true(self):
        for made, names in each():
            self.assertIs(bool(made(*names)), True)


if __name__ == "__main__":
    main()

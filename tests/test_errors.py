"""[2] and the interface: all errors of the document, their bases, attributes and codes."""

from inspect import signature
from unittest import TestCase, main

from feeblind import errors
from tests.oracles import ODD

NAMED = {
    "ChartError": {
        "BadName": ["value"], "BadFee": ["what"], "BadEdit": ["at"], "BadText": ["line"], "BadMeasure": ["what"],
        "BadTable": ["at"], "BadValue": ["value"], "BadOrder": ["road"], "BadPair": ["source", "target"],
        "BadCells": ["road"], "BadSetting": ["setting"], "BadWay": ["word"], "NoTurn": ["source", "target"],
        "OtherEnds": ["name"], "TakenName": ["name"], "DoubleRule": ["source", "target"], "TooMany": ["what", "count"],
    },
    "Missing": {"UnknownName": ["name"], "UnknownRow": ["row"], "UnknownCell": ["cell"], "UnknownWorker": ["worker"]},
    "Refused": {
        "PlanNotTaken": ["refused"], "MeasureNotTaken": ["refused"], "HubsNotTaken": ["refused"],
        "BoundsNotTaken": ["refused"], "NotReady": ["cell"], "Busy": ["worker"], "Idle": ["worker"],
        "AtHome": ["place"],
    },
}
ROOTS = {"ChartError": ValueError, "Missing": LookupError, "Refused": RuntimeError}


def each():
    """Each error class with its base and the names of its parameters."""
    rows = [(name, base, names) for base, row in NAMED.items() for name, names in row.items()]
    for name, base, names in rows:
        yield getattr(errors, name), getattr(errors, base), names
    yield errors.NothingLeft, IndexError, []


class Bases(TestCase):
    def test_roots(self):
        for name, root in ROOTS.items():
            self.assertEqual(getattr(errors, name).__bases__, (root,))

    def test_direct_bases(self):
        for made, base, _ in each():
            self.assertEqual(made.__bases__, (base,), made)

    def test_all_stand_in_this_file(self):
        for made, base, _ in each():
            self.assertEqual(made.__module__, "feeblind.errors")


class Made(TestCase):
    def test_parameters(self):
        for made, _, names in each():
            self.assertEqual(list(signature(made).parameters), names, made)

    def test_attributes_keep_any_values_as_they_are(self):
        for made, _, names in each():
            for value in ODD:
                values = [value, [value], {"a": value}][:len(names)]
                by_place = made(*values)
                by_name = made(**dict(zip(names, values)))
                for error in (by_place, by_name):
                    for name, kept in zip(names, values):
                        self.assertIs(getattr(error, name), kept)

    def test_several_values_stand_in_their_places(self):
        error = errors.NoTurn("ab", "cd")
        self.assertEqual((error.source, error.target), ("ab", "cd"))
        error = errors.TooMany(count=121, what="roads")
        self.assertEqual((error.what, error.count), ("roads", 121))

    def test_code(self):
        for made, _, names in each():
            self.assertEqual(made(*names).code, made.__name__)

    def test_code_stands_on_each_object(self):
        for made, _, names in each():
            self.assertLessEqual({"code", *names}, set(vars(made(*names))))

    def test_wrong_number_of_values(self):
        for made, _, names in each():
            with self.assertRaises(TypeError):
                made(*names, 1)
            if names:
                with self.assertRaises(TypeError):
                    made()


class Caught(TestCase):
    def test_by_own_class_and_base(self):
        for made, base, names in each():
            for caught in (made, base, base.__bases__[0]):
                with self.assertRaises(caught):
                    raise made(*names)

    def test_not_by_another_class(self):
        classes = [made for made, _, _ in each()]
        for made in classes:
            for other in classes:
                self.assertEqual(issubclass(made, other), made is other)

    def test_messages_of_equal_errors_are_equal(self):
        for made, _, names in each():
            for value in ODD:
                values = [value] * len(names)
                self.assertEqual(str(made(*values)), str(made(*values)))

    def test_numbers_of_thousands_of_digits(self):
        for made, _, names in each():
            for value in (10 ** 5000, -10 ** 5000):
                error = made(*[value] * len(names))
                self.assertIs(type(str(error)), str)
                self.assertTrue(all(getattr(error, name) is value for name in names))


if __name__ == "__main__":
    main()

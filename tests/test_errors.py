"""The errors: their classes, what they derive from, their attributes and their constructors' parameters."""

import inspect
import unittest

from curvepieces import errors
from tests.support import Thing

VALUE_ERRORS = ["InvalidCurve", "InvalidLine", "InvalidMany", "InvalidNumber", "InvalidPlane", "InvalidPrime",
                "InvalidRoot", "InvalidChange", "InvalidClaim", "InvalidCommand", "InvalidFollower", "InvalidForm",
                "InvalidPair", "InvalidPaper", "InvalidPoint", "InvalidPositions", "InvalidRow", "InvalidRows",
                "InvalidValue"]

# The class in front, and for each class behind it the attributes, which are the parameters too.
CLASSES = {
    ValueError: {"CurveError": []},
    LookupError: {"MissingError": []},
    RuntimeError: {"StateError": []},
    ArithmeticError: {"LimitError": []},
    errors.CurveError: {**{name: ["value"] for name in VALUE_ERRORS}, "DividedByNought": [],
                        "InvalidLines": ["position"], "InvalidText": ["position"]},
    errors.MissingError: {"UnknownLabel": ["value"], "UnknownName": ["value"]},
    errors.StateError: {"BadPrime": [], "CommandFailed": ["position"], "LabelTaken": ["label"], "LiesOn": [],
                        "NameTaken": ["name"], "NoPart": [], "NotClean": [], "NothingToRedo": [],
                        "NothingToUndo": [], "ZeroLine": [], "ZeroPlane": []},
    errors.LimitError: {"TooMany": ["what", "limit"]},
}

ALL = [(front, name, names) for front, behind in CLASSES.items() for name, names in behind.items()]


class ErrorsTest(unittest.TestCase):

    def test_each_class_is_a_direct_subclass_of_the_one_in_front_alone(self):
        for front, name, _ in ALL:
            self.assertEqual(getattr(errors, name).__bases__, (front,), name)

    def test_each_class_is_defined_in_the_file(self):
        for _, name, _ in ALL:
            self.assertEqual(getattr(errors, name).__module__, "curvepieces.errors")

    def test_there_are_no_other_classes(self):
        found = [name for name, _ in inspect.getmembers(errors, inspect.isclass)]
        self.assertEqual(sorted(found), sorted([name for _, name, _ in ALL]))

    def test_attributes_by_place_and_by_name_with_any_values(self):
        for _, name, names in ALL:
            for values in ([None, 3], [[1, [2]], True], [Thing(), "x"], [{}, -1], [0, ()]):
                given = values[:len(names)]
                for error in (getattr(errors, name)(*given), getattr(errors, name)(**dict(zip(names, given)))):
                    for word, value in zip(names, given):
                        self.assertIs(getattr(error, word), value)

    def test_constructors_take_just_these(self):
        for _, name, names in ALL:
            if names:
                self.assertEqual(list(inspect.signature(getattr(errors, name)).parameters), names)
                with self.assertRaises(TypeError):
                    getattr(errors, name)()
                with self.assertRaises(TypeError):
                    getattr(errors, name)(*range(len(names) + 1))

    def test_they_can_be_raised_and_caught_by_what_is_in_front(self):
        for front, name, names in ALL:
            with self.assertRaises(front):
                raise getattr(errors, name)(*names)


if __name__ == "__main__":
    unittest.main()

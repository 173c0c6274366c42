import unittest

from evenboxes import errors
from tests.samples import values_of_all_kinds

# For each class: its one base class and its attributes.
CLASSES = {
    "WrongValue": (ValueError, ()),
    "InvalidNumber": (errors.WrongValue, ("given",)),
    "InvalidText": (errors.WrongValue, ("given",)),
    "InvalidName": (errors.WrongValue, ("given",)),
    "InvalidIndex": (errors.WrongValue, ("given",)),
    "InvalidPromise": (errors.WrongValue, ("given",)),
    "NotAnOrder": (errors.WrongValue, ("given",)),
    "NotNumbers": (errors.WrongValue, ("given",)),
    "InvalidMeasures": (errors.WrongValue, ("index",)),
    "InvalidKinds": (errors.WrongValue, ("index",)),
    "InvalidPeople": (errors.WrongValue, ("index",)),
    "InvalidGenerators": (errors.WrongValue, ("index",)),
    "InvalidChanges": (errors.WrongValue, ("index",)),
    "WrongName": (LookupError, ()),
    "UnknownName": (errors.WrongName, ("given",)),
    "InUse": (errors.WrongName, ("index",)),
    "NoAnswer": (ArithmeticError, ()),
    "TooMany": (errors.NoAnswer, ("limit",)),
    "NothingToUndo": (errors.NoAnswer, ()),
    "Broken": (errors.NoAnswer, ("index", "shown")),
}


def all_values():
    return values_of_all_kinds() + [0, 3, 10 ** 59, "plum", ("possible", "a", 3), ((("deep",),),), errors.InUse(1)]


class ErrorsTest(unittest.TestCase):
    def test_the_classes_that_are_told(self):
        defined = {
            name for name, value in vars(errors).items()
            if isinstance(value, type) and value.__module__ == "evenboxes.errors"
        }
        self.assertEqual(defined, set(CLASSES))

    def test_just_the_one_base(self):
        for name, (base, _) in CLASSES.items():
            with self.subTest(name=name):
                self.assertEqual(getattr(errors, name).__bases__, (base,))

    def test_each_class_with_attributes_is_made_by_its_own_method(self):
        for name, (_, attributes) in CLASSES.items():
            with self.subTest(name=name):
                self.assertEqual("__init__" in vars(getattr(errors, name)), attributes != ())

    def test_made_by_position_keeps_what_it_was_made_with(self):
        for name, (_, attributes) in CLASSES.items():
            for value in all_values():
                told = [value, object()][:len(attributes)]
                with self.subTest(name=name, value=value):
                    self.check(getattr(errors, name)(*told), attributes, told)

    def test_made_by_name_keeps_what_it_was_made_with(self):
        for name, (_, attributes) in CLASSES.items():
            for value in all_values():
                told = [value, object()][:len(attributes)]
                named = list(zip(attributes, told))
                with self.subTest(name=name, value=value):
                    self.check(getattr(errors, name)(**dict(named)), attributes, told)
                    self.check(getattr(errors, name)(**dict(reversed(named))), attributes, told)

    def check(self, error, attributes, told):
        self.assertEqual(tuple(vars(error)), attributes)
        for attribute, value in zip(attributes, told):
            self.assertIs(getattr(error, attribute), value)

    def test_broken_made_by_position_and_name(self):
        error = errors.Broken(2, shown=7)
        self.assertEqual((error.index, error.shown), (2, 7))

    def test_raised_and_caught_by_the_bases(self):
        for name, (base, attributes) in CLASSES.items():
            with self.subTest(name=name):
                with self.assertRaises(base):
                    raise getattr(errors, name)(*[5, None][:len(attributes)])


if __name__ == "__main__":
    unittest.main()

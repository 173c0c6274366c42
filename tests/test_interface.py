"""The names and parameters of the interface."""

import importlib
import inspect
import unittest

# For each module the functions with their parameters, in order.
FUNCTIONS = {
    "sharing": {
        "is_sharing": ("order", "boxes", "sharing"),
        "table": ("order", "boxes"),
        "possible": ("order",),
        "sharing": ("order", "boxes"),
        "used": ("order",),
    },
    "reasons": {"reason": ("order", "boxes")},
    "mending": {"least_changes": ("order", "boxes", "changes")},
    "checker": {"accepts": ("claim", "certificate")},
    "certificates": {
        "certify_possible": ("order", "boxes"),
        "certify_nothing": ("order",),
        "certify_unused": ("order", "person", "kind"),
        "certify_multiples": ("order",),
        "certify_not": ("order", "boxes"),
    },
}

# For each module the classes with their methods and the parameters of these; None for a property.
CLASSES = {
    "orders": {
        "Order": {
            "__init__": ("measures", "kinds", "people"),
            "read": ("text",),
            "due": ("boxes",),
            "measures": None,
            "kinds": None,
            "people": None,
            "__eq__": ("other",),
            "__str__": (),
            "__repr__": (),
        },
    },
    "numbers": {
        "Numbers": {
            "__init__": ("generators",),
            "gaps": (),
            "onward": ("start",),
            "below": ("end",),
            "within": ("other",),
            "generators": None,
            "divisor": None,
            "__contains__": ("value",),
            "__add__": ("other",),
            "__and__": ("other",),
            "__eq__": ("other",),
            "__bool__": (),
            "__repr__": (),
        },
    },
    "desks": {
        "Desk": {
            "__init__": (),
            "__setitem__": ("name", "order"),
            "__getitem__": ("name",),
            "remove": ("name",),
            "promise": ("promise",),
            "lift": ("index",),
            "undo": (),
            "names": None,
            "promises": None,
            "changes": None,
            "__contains__": ("value",),
            "__len__": (),
            "__bool__": (),
            "__eq__": ("other",),
            "trial": (),
            "tried": ("action",),
        },
    },
}


class InterfaceTest(unittest.TestCase):
    def module(self, name):
        return importlib.import_module(f"evenboxes.{name}")

    def parameters(self, function):
        return tuple(inspect.signature(function).parameters)

    def test_functions(self):
        for module, functions in FUNCTIONS.items():
            for name, parameters in functions.items():
                with self.subTest(module=module, name=name):
                    function = getattr(self.module(module), name)
                    self.assertTrue(inspect.isfunction(function))
                    self.assertEqual(function.__module__, f"evenboxes.{module}")
                    self.assertEqual(self.parameters(function), parameters)

    def test_classes(self):
        for module, classes in CLASSES.items():
            for name, methods in classes.items():
                kind = getattr(self.module(module), name)
                self.assertEqual(kind.__module__, f"evenboxes.{module}")
                for method, parameters in methods.items():
                    with self.subTest(name=name, method=method):
                        self.check_method(vars(kind)[method], parameters)

    def check_method(self, method, parameters):
        if parameters is None:
            self.assertIsInstance(method, property)
        else:
            function = method.__func__ if isinstance(method, classmethod) else method
            self.assertEqual(self.parameters(function)[1:], parameters)


if __name__ == "__main__":
    unittest.main()

"""The interface: the names, where they are defined, and their arguments."""

import importlib
import inspect
import unittest

INTERFACE = {
    "boxedroots.polys": {
        "number_poly": ["number"], "unknown_poly": ["k"], "plus": ["one", "other"], "minus": ["one", "other"],
        "times": ["one", "other"], "power": ["poly", "many"], "lead": ["poly", "k"], "slope": ["poly", "k"],
        "exchanged": ["poly", "k", "l"], "top": ["poly"], "degree": ["poly", "k"], "worth": ["poly", "point"],
    },
    "boxedroots.divide": {"divided": ["one", "other", "k"], "eliminated": ["one", "other", "k"]},
    "boxedroots.systems": {"is_root": ["system", "thing"]},
    "boxedroots.covers": {
        "cover_fault": ["system", "thing"], "is_cover": ["system", "thing"], "leaves": ["system", "cover"],
        "leaf_of": ["system", "cover", "point"],
    },
    "boxedroots.chains": {
        "is_paper": ["many", "chain", "poly", "thing"], "is_chain": ["many", "thing"],
        "is_regular": ["many", "thing"], "needed": ["many", "chain"], "paper_for": ["many", "chain", "poly"],
    },
    "boxedroots.making": {"cover_of": ["system"]},
    "boxedroots.telling": {
        "many_roots": ["system"], "has_root": ["system"], "is_endless": ["system"], "vanishes": ["system", "poly"],
        "vanishing": ["system", "poly"], "same_roots": ["one", "other"], "met": ["one", "other"],
    },
    "boxedroots.bernstein": {
        "counts_over": ["poly", "box"], "sign_over": ["poly", "box"], "holds_in": ["poly", "k", "box", "bound"],
        "width_told": ["poly", "bound"],
    },
    "boxedroots.boxings": {
        "boxing_fault": ["chain", "thing"], "is_boxing": ["chain", "thing"], "boxes": ["chain", "boxing"],
        "boxing_of": ["chain"],
    },
    "boxedroots.numbers": {
        "number_of": ["fraction"], "sum_of": ["one", "other"], "difference_of": ["one", "other"],
        "product_of": ["one", "other"], "quotient_of": ["one", "other"], "root_of": ["number", "many"],
        "stretch_of": ["number", "width"], "floor_of": ["number", "many"], "sign_of": ["poly", "number"],
        "compared": ["one", "other"], "poly_of": ["number"], "as_fraction": ["number"], "real_roots": ["poly"],
    },
    "boxedroots.roots": {
        "roots": ["system"], "kept": ["system", "wishes"], "least_at": ["system", "poly"], "many_real": ["system"],
        "greatest_at": ["system", "poly"], "nearest": ["system", "point"],
    },
    "boxedroots.texts": {"poly_text": ["poly"], "system_text": ["system"]},
    "boxedroots.reading": {"read_poly": ["text"], "read_system": ["text"]},
}
CLASSES = {
    ("boxedroots.polys", "Poly"): (["terms"], ["__init__", "__eq__"]),
    ("boxedroots.systems", "System"): (["many", "equations", "barred"], ["__init__", "__eq__"]),
    ("boxedroots.numbers", "Number"): (["poly", "low", "high"], ["__init__", "__eq__"]),
    ("boxedroots.roots", "Root"): (None, ["box", "value", "sign_at", "value_of", "__eq__"]),
    ("boxedroots.desk", "Desk"): ([], ["tell"]),
}


class InterfaceTest(unittest.TestCase):
    def test_functions(self):
        for module, functions in INTERFACE.items():
            for name, arguments in functions.items():
                function = getattr(importlib.import_module(module), name)
                self.assertTrue(inspect.isfunction(function), name)
                self.assertEqual(function.__module__, module)
                self.assertEqual(list(inspect.signature(function).parameters), arguments)

    def test_classes(self):
        for (module, name), (arguments, methods) in CLASSES.items():
            found = getattr(importlib.import_module(module), name)
            self.assertEqual(found.__module__, module)
            if arguments is not None:
                self.assertEqual(list(inspect.signature(found).parameters), arguments)
            for method in methods:
                self.assertIn(method, vars(found))

    def test_methods(self):
        for method, arguments in (
            ("box", ["width"]), ("value", ["k"]), ("sign_at", ["poly"]), ("value_of", ["poly"]),
        ):
            function = vars(importlib.import_module("boxedroots.roots").Root)[method]
            self.assertEqual(list(inspect.signature(function).parameters), ["self"] + arguments)
        function = vars(importlib.import_module("boxedroots.desk").Desk)["tell"]
        self.assertEqual(list(inspect.signature(function).parameters), ["self", "line"])

    def test_the_package_is_one(self):
        self.assertTrue(importlib.import_module("boxedroots").__file__.endswith("__init__.py"))


if __name__ == "__main__":
    unittest.main()

"""Whether what the interface lists exists under its name, with its arguments, in its file and in its class."""

import importlib
import inspect
import unittest

INTERFACE = {
    "checks": {"is_integer": "value", "is_within": "value least most", "are_integers": "value", "is_lot": "value many",
               "is_short": "value", "are_shorts": "value many"},
    "papers": {"Paper": "word *parts", "Denial": "word *parts", "fixed": "value"},
    "shorts": {"wrapped": "number", "reckoned": "sign one other"},
    "nets": {"Net": "houses ties", "places_of": "net house", "place_of": "net house other", "distance": "net one other",
             "farthest": "net house"},
    "trees": {"is_name": "value", "is_expression": "value", "is_statement": "value", "depth_of": "tree", "parts_of": "body",
              "weight_of": "body", "names_in": "body"},
    "programs": {"Program": "cells body", "rows_of": "program"},
    "standings": {"Standing": "done cells new old base shown", "is_standing": "program net house value",
                  "first_standing": "program net house"},
    "rounds": {"value_of": "program net house standing heard given expression",
               "next_standing": "program net house standing heard given"},
    "calm": {"calm_run": "program net inputs", "calm_screens": "program net inputs", "screen_of": "standings",
             "is_beginning": "one other"},
    "codes": {"is_instruction": "value", "Code": "rows"},
}
METHODS = {"Paper": "__init__ __eq__ __bool__", "Denial": "__init__ __eq__ __bool__", "Net": "__init__ __eq__ __str__ read",
           "Program": "__init__ __eq__ __str__ read", "Standing": "__init__ __eq__",
           "Code": "__init__ __eq__ __str__ __len__ __iter__ read"}


class Interface(unittest.TestCase):
    def test_names_and_arguments(self):
        for module, listed in INTERFACE.items():
            there = importlib.import_module(f"fairweather.{module}")
            for name, arguments in listed.items():
                value = getattr(there, name)
                self.assertEqual(value.__module__, f"fairweather.{module}", name)
                told = []
                for parameter in inspect.signature(value).parameters.values():
                    self.assertIs(parameter.default, parameter.empty, name)
                    star = "*" if parameter.kind == parameter.VAR_POSITIONAL else ""
                    told.append(star + parameter.name)
                self.assertEqual(" ".join(told), arguments, name)

    def test_methods_stand_in_their_classes(self):
        for listed in INTERFACE:
            there = importlib.import_module(f"fairweather.{listed}")
            for name, methods in METHODS.items():
                for method in methods.split() if hasattr(there, name) and name in INTERFACE[listed] else ():
                    self.assertIn(method, vars(getattr(there, name)), name)

    def test_read_is_static_or_of_the_class(self):
        for module, name in (("nets", "Net"), ("programs", "Program"), ("codes", "Code")):
            kind = getattr(importlib.import_module(f"fairweather.{module}"), name)
            self.assertIsInstance(vars(kind)["read"], (staticmethod, classmethod))
            self.assertEqual(list(inspect.signature(kind.read).parameters), ["text"])


if __name__ == "__main__":
    unittest.main()

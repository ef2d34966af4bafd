"""Whether what the interface lists exists under its name, with its arguments, in its file and in its class."""

import importlib
import inspect
import unittest

INTERFACE = {
    "checks": {"is_integer": "value", "is_within": "value least most", "are_integers": "value", "is_lot": "value many",
               "is_short": "value", "are_shorts": "value many"},
    "papers": {"Paper": "word *parts", "Denial": "word *parts", "fixed": "value"},
    "shorts": {"wrapped": "number", "reckoned": "sign one other"},
    "nets": {"Net": "houses ties", "places_of": "net house", "place_of": "net house other", "distance": "net one other",
             "farthest": "net house"},
    "trees": {"is_name": "value", "is_expression": "value", "is_statement": "value", "depth_of": "tree", "parts_of": "body",
              "weight_of": "body", "names_in": "body"},
    "programs": {"Program": "cells body", "rows_of": "program"},
    "standings": {"Standing": "done cells new old base shown", "is_standing": "program net house value",
                  "first_standing": "program net house"},
    "rounds": {"value_of": "program net house standing heard given expression",
               "next_standing": "program net house standing heard given"},
    "calm": {"calm_run": "program net inputs", "calm_screens": "program net inputs", "screen_of": "standings",
             "is_beginning": "one other"},
    "codes": {"is_instruction": "value", "Code": "rows"},
    "computers": {"Computer": "code disk=()"},
    "expressions": {"expression_code": "program net house expression start=0"},
    "statements": {"statement_code": "program net house statement start=0", "round_code": "program net house start=0"},
    "shorter": {"shorter": "code"},
    "halves": {"half_pairs": "program net house standing m half", "standing_in": "program net house disk",
               "first_disk": "program net house"},
    "care": {"is_wanted": "done has number m"},
    "houses": {"house_code": "program net house m left=None"},
    "lines": {"Line": "late"},
    "weathers": {"is_event": "net value", "Weather": "events"},
    "worlds": {"World": "program net m s left=None"},
    "meanings": {"standings_of": "world", "lead": "world one other", "spread": "world",
                 "trail": "program net m s left weather"},
    "followed": {"Followed": "inputs", "Strayed": "house place", "Parted": "house", "followed": "world"},
    "check_runs": {"shows_followed": "world value"},
    "sweeps": {"sweep": "net given", "shows_each_round": "program"},
    "falls": {"last_rounds": "net house rounds", "wave": "net house rounds"},
    "exactly": {"Right": "m s", "Wrong": "program net weather house", "Still": "program net weather house", "least_number": "s",
                "judged": "m s left=None"},
    "check_exactly": {"shows_wave": "program net m s house rounds value", "shows_judged": "m s left value"},
    "library": {"routes": "goal", "tree": "root", "leader": "", "tally": "", "echo": ""},
    "orders": {"together": "net house", "lockstep": "net one other"},
    "pictures": {"picture": "world", "track": "program net m s left weather"},
    "desk": {"Desk": "program net m s=0"},
}
METHODS = {"Paper": "__init__ __eq__ __bool__", "Denial": "__init__ __eq__ __bool__", "Net": "__init__ __eq__ __str__ read",
           "Program": "__init__ __eq__ __str__ read", "Standing": "__init__ __eq__",
           "Code": "__init__ __eq__ __str__ __len__ __iter__ read", "Computer": "__init__ memory disk_at hand step cut",
           "Line": "__init__ send hand drop", "Weather": "__init__ __eq__ __len__ __str__ read",
           "World": "__init__ do run line_of disk_of waiting_of", "Followed": "__init__", "Strayed": "__init__",
           "Parted": "__init__", "Right": "__init__", "Wrong": "__init__", "Still": "__init__",
           "Desk": "__init__ __eq__ __len__ told undo twin"}
ARGUMENTS = {"Computer": {"memory": "address", "disk_at": "address", "hand": "place letter", "step": "given", "cut": "kept"},
             "Line": {"send": "letter", "hand": "back", "drop": "back"},
             "World": {"do": "event", "run": "weather", "line_of": "one other", "disk_of": "house", "waiting_of": "house"},
             "Desk": {"told": "line", "undo": "", "twin": ""}}


class Interface(unittest.TestCase):
    def test_names_and_arguments(self):
        for module, listed in INTERFACE.items():
            there = importlib.import_module(f"fairweather.{module}")
            for name, arguments in listed.items():
                value = getattr(there, name)
                self.assertEqual(value.__module__, f"fairweather.{module}", name)
                told = []
                for parameter in inspect.signature(value).parameters.values():
                    star = "*" if parameter.kind == parameter.VAR_POSITIONAL else ""
                    default = "" if parameter.default is parameter.empty else f"={parameter.default!r}"
                    told.append(star + parameter.name + default)
                self.assertEqual(" ".join(told), arguments, name)

    def test_methods_stand_in_their_classes(self):
        for listed in INTERFACE:
            there = importlib.import_module(f"fairweather.{listed}")
            for name, methods in METHODS.items():
                for method in methods.split() if hasattr(there, name) and name in INTERFACE[listed] else ():
                    self.assertIn(method, vars(getattr(there, name)), name)

    def test_arguments_of_methods(self):
        for module, listed in INTERFACE.items():
            for name in listed:
                for method, arguments in ARGUMENTS.get(name, {}).items():
                    one = getattr(getattr(importlib.import_module(f"fairweather.{module}"), name), method)
                    self.assertEqual(list(inspect.signature(one).parameters), ["self", *arguments.split()])

    def test_read_is_static_or_of_the_class(self):
        for module, name in (("nets", "Net"), ("programs", "Program"), ("codes", "Code"), ("weathers", "Weather")):
            kind = getattr(importlib.import_module(f"fairweather.{module}"), name)
            self.assertIsInstance(vars(kind)["read"], (staticmethod, classmethod))
            self.assertEqual(list(inspect.signature(kind.read).parameters), ["text"])


if __name__ == "__main__":
    unittest.main()

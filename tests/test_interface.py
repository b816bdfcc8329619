"""The names and arguments of the interface, and the files in which it is defined."""

import importlib
import inspect
import unittest

FUNCTIONS = {
    "basetrees.zigzags": {
        "zigzags": ("web",), "kinds": ("web",), "zigzag_of": ("web", "source", "copy"), "ways": ("web",),
    },
    "basetrees.choices": {
        "how_many": ("web",), "choice_at": ("web", "number"), "number_of": ("web", "choice"),
        "kept": ("web", "choice"), "is_choice": ("web", "value"),
    },
    "basetrees.judging": {"judge": ("web", "source", "copy"), "sure_lines": ("web",), "shares": ("web",)},
    "basetrees.gaps": {
        "gaps": ("web",), "freeing": ("web",), "how_many_freed": ("web", "freed"), "first_freed": ("web", "freed"),
    },
    "basetrees.told": {
        "how_many_told": ("web", "told"), "first_told": ("web", "told"), "quarrels": ("web", "told"),
        "judge_told": ("web", "told", "source", "copy"), "striking": ("web", "told"),
    },
    "basetrees.weights": {
        "best_sum": ("web", "weights"), "least_sum": ("web", "weights"), "best_choice": ("web", "weights"),
        "how_many_best": ("web", "weights"), "sum_of": ("web", "weights", "choice"),
        "worth": ("web", "weights", "source", "copy"), "sums": ("web", "weights"), "prices": ("web", "weights"),
    },
    "basetrees.asking": {
        "best_question": ("web", "told", "offers"), "enough": ("web",), "asked": ("web", "told"),
    },
    "basetrees.depths": {
        "is_above": ("web", "choice", "one", "other"), "depth": ("web", "choice", "copy"),
        "meeting": ("web", "choice", "one", "other"), "depth_range": ("web", "copy"),
        "judge_above": ("web", "one", "other"), "meetings": ("web", "one", "other"),
    },
    "basetrees.talks": {"answer": ("shelf", "line"), "talk": ("shelf", "text")},
    "basetrees.checker": {"accepts": ("claim", "certificate")},
    "basetrees.certificates": {
        "certify_web": ("web",), "certify_line": ("web", "source", "copy"), "certify_count": ("web",),
        "certify_best": ("web", "weights"),
    },
}
CLASSES = {
    "basetrees.webs": {
        "Web": {
            "__init__": ("self", "text"), "sources": ("self", "copy"), "copies": ("self", "source"),
            "with_copy": ("self", "name", "sources"), "without": ("self", "copy"), "__str__": ("self",),
            "__repr__": ("self",), "__eq__": ("self", "other"),
        },
    },
    "basetrees.shelves": {
        "Shelf": {
            "__init__": ("self", "name"), "put": ("self", "name", "sources"), "take": ("self", "copy"),
            "undo": ("self",), "attempt": ("self",), "tried": ("self", "act"),
        },
    },
    "basetrees.desks": {
        "Desk": {
            "__init__": ("self",), "put": ("self", "name", "web"), "drop": ("self", "name"),
            "claim": ("self", "claim"), "lift": ("self", "index"), "undo": ("self",), "attempt": ("self",),
            "tried": ("self", "act"), "__getitem__": ("self", "name"), "__contains__": ("self", "name"),
            "__len__": ("self",),
        },
    },
}
PROPERTIES = {
    ("basetrees.webs", "Web"): ("text", "names", "lines", "ends"),
    ("basetrees.shelves", "Shelf"): ("web", "changes"),
    ("basetrees.desks", "Desk"): ("names", "claims", "changes"),
}


class InterfaceTest(unittest.TestCase):
    def assert_called_so(self, call, parameters):
        found = inspect.signature(call).parameters
        self.assertEqual(tuple(found), parameters)
        for parameter in found.values():
            self.assertIs(parameter.kind, inspect.Parameter.POSITIONAL_OR_KEYWORD)
            self.assertIs(parameter.default, inspect.Parameter.empty)

    def test_functions(self):
        for place, functions in FUNCTIONS.items():
            for name, parameters in functions.items():
                call = getattr(importlib.import_module(place), name)
                self.assertTrue(inspect.isfunction(call))
                self.assertEqual(call.__module__, place)
                self.assert_called_so(call, parameters)

    def test_classes(self):
        for place, classes in CLASSES.items():
            for name, methods in classes.items():
                kind = getattr(importlib.import_module(place), name)
                self.assertEqual((kind.__module__, kind.__bases__), (place, (object,)))
                for method, parameters in methods.items():
                    if method.startswith("__") and method != "__init__":
                        # Used by its sign, it has no names to be passed by.
                        self.assertEqual(len(inspect.signature(vars(kind)[method]).parameters), len(parameters))
                    else:
                        self.assert_called_so(vars(kind)[method], parameters)

    def test_properties(self):
        for (place, name), words in PROPERTIES.items():
            kind = getattr(importlib.import_module(place), name)
            for word in words:
                self.assertIsInstance(vars(kind)[word], property)


if __name__ == "__main__":
    unittest.main()

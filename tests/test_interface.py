"""The names and arguments of the interface, each defined in the file under which it is listed."""

import importlib
import inspect
import unittest

import figurehold.errors as errors

FUNCTIONS = {
    "polys": {
        "constant": "k", "variable": "name", "added": "p q", "less": "p q", "multiplied": "p q", "power": "p k", "variables": "p",
        "degree_in": "p variable", "put_in": "p pairs", "value": "p pairs", "poly_text": "p", "read_poly": "text",
    },
    "constructions": {"built": "steps"},
    "triples": {"triple": "construction point", "conditions": "construction"},
    "figures": {"places": "construction values", "is_figure": "construction values", "first_figure": "construction"},
    "claims": {"claim_polys": "construction claim", "true_in": "construction claim values"},
    "deciding": {"holds": "construction claim", "counter": "construction claim"},
    "papers": {"paper": "construction claim"},
    "checking": {"paper_holds": "construction claim paper"},
    "sameness": {"same_point": "one p other q", "parting": "one p other q"},
    "truths": {"truths": "construction kind", "families": "construction"},
    "hanging": {
        "hangs_on": "construction point", "pruned": "construction points", "changed": "construction step",
        "renamed": "construction pairs",
    },
    "loci": {"locus": "construction values unknown point", "on_curve": "curve place"},
    "texts": {"step_text": "step", "claim_text": "claim", "read_step": "text", "read_claim": "text"},
    "desk": {"replayed": "log"},
}
METHODS = {
    ("constructions", "Construction"): {"add": "step", "steps": "", "points": "", "unknowns": "", "copy": "", "__eq__": "other"},
    ("desk", "Desk"): {"tell": "line", "log": ""},
}
ERRORS = {
    "BadValue": "at", "BadStep": "at", "BadClaim": "at", "BadPoint": "name", "BadPaper": "at", "BadLine": "at", "Impossible": "name",
    "Broken": "name", "TooMany": "word", "NothingThere": "word",
}


def arguments(thing):
    return list(inspect.signature(thing).parameters)


class InterfaceTest(unittest.TestCase):
    def test_functions(self):
        for file, listed in FUNCTIONS.items():
            module = importlib.import_module(f"figurehold.{file}")
            for name, expected in listed.items():
                thing = getattr(module, name)
                self.assertTrue(inspect.isfunction(thing), name)
                self.assertEqual((thing.__module__, thing.__name__), (module.__name__, name))
                self.assertEqual(arguments(thing), expected.split(), name)

    def test_methods(self):
        for (file, name), listed in METHODS.items():
            module = importlib.import_module(f"figurehold.{file}")
            made = getattr(module, name)
            self.assertEqual((made.__module__, arguments(made)), (module.__name__, []))
            for method, expected in listed.items():
                self.assertIn(method, vars(made))
                self.assertEqual(arguments(vars(made)[method]), ["self"] + expected.split(), method)

    def test_errors(self):
        for name, kept in ERRORS.items():
            made = getattr(errors, name)
            self.assertEqual((made.__module__, made.__bases__), ("figurehold.errors", (errors.FigureError,)))
            self.assertEqual(arguments(made), [kept])


if __name__ == "__main__":
    unittest.main()

"""The interface: every name is there, with its arguments."""

import importlib
import inspect
import unittest

FUNCTIONS = {
    "claims": {"is_claim": 1, "is_play": 2, "is_kept": 2, "is_lost": 2, "left": 2},
    "games": {"winner": 2, "good_picks": 2, "parted": 2},
    "plans": {"plan": 1, "is_plan": 3},
    "fewest": {"ends": 1, "least_plan": 1},
    "rowpapers": {"rows_of": 2, "row_paper": 1, "is_row_paper": 2},
    "termpapers": {"terms_of": 2, "term_paper": 1, "is_term_paper": 2},
    "bypapers": {"by_rows": 3, "by_terms": 3},
    "away": {"put_away": 3},
    "spread": {"spread": 1, "keeps": 2},
    "counted": {"how_many_plans": 2, "how_many_kept": 1},
    "moved": {"moved": 3, "earliest": 2},
    "cores": {"is_needless": 2, "lean": 1, "fewest_rows": 1, "is_fewest": 2},
    "pairs": {"is_pairs": 1, "told_pairs": 1},
    "looker": {"is_told": 2},
    "texts": {"show_claim": 1, "show_tree": 1, "read_claim": 1, "read_tree": 1},
}
CLASSES = {
    ("match", "Match"): {"__init__": 1, "pick": 1, "back": 0, "play": 0, "turn": 0, "who": 0, "good": 0, "left": 0},
    ("keeper", "Keeper"): {
        "__init__": 1, "put": 1, "out": 1, "back": 0, "claim": 0, "winner": 0, "plan": 0, "paper": 0},
    ("desk", "Desk"): {"__init__": 0, "say": 1},
}
ERRORS = ["NoStep", "NoText", "NotWon", "TooMany", "NoPick", "NoBack", "NoRow", "NoLine"]


def module(name):
    """A module of the program."""
    return importlib.import_module(f"allsome.{name}")


class InterfaceTest(unittest.TestCase):
    def check_arguments(self, asked, many):
        """A function takes just so many arguments by their places."""
        parts = inspect.signature(asked).parameters.values()
        self.assertEqual([part.kind for part in parts], [inspect.Parameter.POSITIONAL_OR_KEYWORD] * many, asked)
        self.assertEqual([part.default for part in parts], [inspect.Parameter.empty] * many, asked)

    def test_functions(self):
        for name, functions in FUNCTIONS.items():
            for function, many in functions.items():
                asked = getattr(module(name), function)
                self.assertTrue(inspect.isfunction(asked))
                self.assertEqual(asked.__module__, f"allsome.{name}")
                self.check_arguments(asked, many)

    def test_classes(self):
        for (name, word), methods in CLASSES.items():
            made = getattr(module(name), word)
            self.assertTrue(inspect.isclass(made))
            self.assertEqual(made.__module__, f"allsome.{name}")
            for method, many in methods.items():
                self.check_arguments(getattr(made, method), many + 1)

    def test_errors(self):
        errors = module("errors")
        self.assertEqual(errors.ClaimError.__bases__, (ValueError,))
        for name in ERRORS:
            self.assertEqual(getattr(errors, name).__bases__, (errors.ClaimError,))
        self.assertEqual(errors.NoStep(3).step, 3)
        self.assertEqual(errors.NoText(4).line, 4)
        for name in ERRORS[2:]:
            self.assertIsInstance(getattr(errors, name)("some words"), errors.ClaimError)

    def test_each_module_can_be_imported(self):
        for name in list(FUNCTIONS) + [name for name, word in CLASSES] + ["errors"]:
            self.assertEqual(module(name).__name__, f"allsome.{name}")


if __name__ == "__main__":
    unittest.main()

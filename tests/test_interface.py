"""The interface: each name is defined in the file under which it is listed."""

import ast
import importlib
import inspect
import pathlib
import unittest

PACKAGE = pathlib.Path(__file__).resolve().parent.parent / "savedback"

# What has landed of the interface's functions and classes.
LISTED = {
    "errors": (
        "SaveError", "BadText", "BadGame", "BadPlan", "BadWorld", "BadDepths", "Unsafe", "Busy",
        "TooManyEdits", "NothingToUndo", "NothingToRedo", "BadEdits", "BadEdit", "Rejected",
        "NoField", "NoVersion",
    ),
    "games": ("game_error", "each_statement"),
    "steps": ("step", "walk", "reached", "way_to", "told_by"),
    "pairs": ("unlike_for", "table", "table_holds"),
    "plans": ("plan_error", "taken_back", "tried"),
    "depths": ("depths", "is_safe", "is_safe_within", "failing"),
    "needs": ("plan_of", "needed", "cheapest"),
    "makings": ("made_of", "unlike_games"),
}

# How the functions are called, in the words of the document.
CALLS = {
    "games": ("game_error(value)", "each_statement(game)"),
    "steps": (
        "step(game, world, key)", "walk(game, world, keys)", "reached(game)", "way_to(game, world)",
        "told_by(game, field, others)",
    ),
    "pairs": ("unlike_for(game, one, other)", "table(game)", "table_holds(game, value)"),
    "plans": (
        "plan_error(game, value)", "taken_back(game, plan, old, now)",
        "tried(game, plan, ahead, guessed, keys)",
    ),
    "depths": (
        "depths(game, plan)", "is_safe(game, plan, depth)", "is_safe_within(game, plan, low, high)",
        "failing(game, plan, depth)",
    ),
    "needs": ("plan_of(game, lot)", "needed(game, low, high)", "cheapest(game, costs, low, high)"),
    "makings": ("made_of(game, field, lot)", "unlike_games(one, other)"),
}


def defined_in(module):
    tree = ast.parse((PACKAGE / (module + ".py")).read_text(encoding="utf-8"))
    return [node.name for node in tree.body if isinstance(node, (ast.FunctionDef, ast.ClassDef))]


class Interface(unittest.TestCase):
    def test_each_name_is_defined_in_its_file(self):
        for module, names in LISTED.items():
            loaded = importlib.import_module("savedback." + module)
            for name in names:
                with self.subTest(module=module, name=name):
                    self.assertIn(name, defined_in(module))
                    self.assertEqual(getattr(loaded, name).__module__, "savedback." + module)

    def test_each_function_takes_what_is_listed(self):
        for module, calls in CALLS.items():
            loaded = importlib.import_module("savedback." + module)
            told = [name + str(inspect.signature(getattr(loaded, name))) for name in LISTED[module]]
            self.assertEqual(told, list(calls))


if __name__ == "__main__":
    unittest.main()

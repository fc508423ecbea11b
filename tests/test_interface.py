"""The interface: each name is defined in the file under which it is listed."""

import ast
import importlib
import inspect
import pathlib
import unittest

PACKAGE = pathlib.Path(__file__).resolve().parent.parent / "savedback"

# The interface's functions and classes.
LISTED = {
    "errors": (
        "SaveError", "BadText", "BadGame", "BadPlan", "BadWorld", "BadDepths", "Unsafe", "Busy",
        "TooManyEdits", "NothingToUndo", "NothingToRedo", "BadEdits", "BadEdit", "Rejected",
        "NoField", "NoVersion",
    ),
    "games": ("game_error", "each_statement"),
    "steps": ("step", "walk", "reached", "way_to", "told_by"),
    "pairs": ("unlike_for", "table", "table_holds"),
    "plans": ("plan_error", "taken_back", "tried"),
    "depths": ("depths", "is_safe", "is_safe_within", "failing"),
    "needs": ("plan_of", "needed", "cheapest"),
    "makings": ("made_of", "unlike_games"),
    "counting": ("failures", "is_safe_shared"),
    "texts": ("game_text", "parse_game"),
    "benches": ("Bench", "SafeBench"),
    "consoles": ("Console",),
}

# How the functions are called, in the words of the document.
CALLS = {
    "games": ("game_error(value)", "each_statement(game)"),
    "steps": (
        "step(game, world, key)", "walk(game, world, keys)", "reached(game)", "way_to(game, world)",
        "told_by(game, field, others)",
    ),
    "pairs": ("unlike_for(game, one, other)", "table(game)", "table_holds(game, value)"),
    "plans": (
        "plan_error(game, value)", "taken_back(game, plan, old, now)",
        "tried(game, plan, ahead, guessed, keys)",
    ),
    "depths": (
        "depths(game, plan)", "is_safe(game, plan, depth)", "is_safe_within(game, plan, low, high)",
        "failing(game, plan, depth)",
    ),
    "needs": ("plan_of(game, lot)", "needed(game, low, high)", "cheapest(game, costs, low, high)"),
    "makings": ("made_of(game, field, lot)", "unlike_games(one, other)"),
    "counting": ("failures(game, plan, old, depth)", "is_safe_shared(game, plan, same, rest)"),
    "texts": ("game_text(game)", "parse_game(value)"),
    "benches": ("Bench(game, plan=None)", "SafeBench(game, plan=None, low=0, high=None)"),
    "consoles": ("Console(bench)",),
}

# How the methods are called, and those that are called by signs.
METHODS = (
    "keep(field)", "leave(field)", "make(field, expression)", "turn(one, other)", "undo()", "redo()",
    "attempt(edits, *, watch=None)", "depths()", "first_unsafe(low, high)", "back(old, now)",
    "state(*, version=None)", "edits()",
)

SIGNS = ("__init__", "__getitem__", "__setitem__", "__iadd__", "__isub__", "__len__", "__str__", "__eq__")



def defined_in(module):
    tree = ast.parse((PACKAGE / (module + ".py")).read_text(encoding="utf-8"))
    return [node.name for node in tree.body if isinstance(node, (ast.FunctionDef, ast.ClassDef))]


class Interface(unittest.TestCase):
    def test_each_name_is_defined_in_its_file(self):
        for module, names in LISTED.items():
            loaded = importlib.import_module("savedback." + module)
            for name in names:
                with self.subTest(module=module, name=name):
                    self.assertIn(name, defined_in(module))
                    self.assertEqual(getattr(loaded, name).__module__, "savedback." + module)

    def test_each_function_takes_what_is_listed(self):
        for module, calls in CALLS.items():
            loaded = importlib.import_module("savedback." + module)
            told = [name + str(inspect.signature(getattr(loaded, name))) for name in LISTED[module]]
            self.assertEqual(told, list(calls))

    def test_each_class_has_its_own_methods(self):
        """What is inherited alone is not enough."""
        for name in ("Bench", "SafeBench"):
            held = vars(getattr(importlib.import_module("savedback.benches"), name))
            for sign in SIGNS:
                self.assertIn(sign, held, name)
            for call in METHODS:
                word = call[:call.index("(")]
                self.assertIn(word, held, name)
                parameters = str(inspect.signature(held[word])).replace("(self, ", "(").replace("(self)", "()")
                self.assertEqual(word + parameters, call)
        console = vars(importlib.import_module("savedback.consoles").Console)
        self.assertEqual(str(inspect.signature(console["execute"])), "(self, line)")

    def test_a_safe_bench_is_a_bench(self):
        benches = importlib.import_module("savedback.benches")
        self.assertEqual(benches.SafeBench.__bases__, (benches.Bench,))
        self.assertEqual((benches.Bench.MOST_EDITS, benches.SafeBench.MOST_EDITS), (60, 60))

    def test_attributes_are_set_when_an_object_is_created(self):
        benches = importlib.import_module("savedback.benches")
        game = ((2,), 1, (0,), ())
        self.assertLessEqual({"game", "plan"}, set(vars(benches.Bench(game))))
        self.assertLessEqual({"game", "plan", "low", "high"}, set(vars(benches.SafeBench(game))))


if __name__ == "__main__":
    unittest.main()

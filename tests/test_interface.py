"""The interface: each name is defined in the file under which it is listed."""

import ast
import importlib
import pathlib
import unittest

PACKAGE = pathlib.Path(__file__).resolve().parent.parent / "savedback"

# What has landed of the interface's functions and classes.
LISTED = {
    "errors": (
        "SaveError", "BadText", "BadGame", "BadPlan", "BadWorld", "BadDepths", "Unsafe", "Busy",
        "TooManyEdits", "NothingToUndo", "NothingToRedo", "BadEdits", "BadEdit", "Rejected",
        "NoField", "NoVersion",
    ),
    "games": ("game_error", "each_statement"),
}


def defined_in(module):
    tree = ast.parse((PACKAGE / (module + ".py")).read_text(encoding="utf-8"))
    return [node.name for node in tree.body if isinstance(node, (ast.FunctionDef, ast.ClassDef))]


class Interface(unittest.TestCase):
    def test_each_name_is_defined_in_its_file(self):
        for module, names in LISTED.items():
            loaded = importlib.import_module("savedback." + module)
            for name in names:
                with self.subTest(module=module, name=name):
                    self.assertIn(name, defined_in(module))
                    self.assertEqual(getattr(loaded, name).__module__, "savedback." + module)


if __name__ == "__main__":
    unittest.main()

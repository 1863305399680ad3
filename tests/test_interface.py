"""The interface: its names stand in their files, and its arguments have their names."""

import ast
import pathlib
import unittest

from moveseen import changes, families

PACKAGE = pathlib.Path(changes.__file__).parent

LISTED = {
    "errors.py": ["MoveError"],
    "changes.py": [
        "BadChanges", "NoSymbol", "all_changes", "way_to", "composed", "inverse", "order_of",
        "symbol_orbits", "kept_by",
    ],
    "families.py": [
        "BadFamily", "BadWiring", "BadInputs", "BadOutputs", "NoSource", "Family", "check_source",
        "shown", "settled_wiring", "settled_inputs", "settled_outputs",
    ],
}


def defined_in(body):
    return {part.name for part in body if isinstance(part, (ast.FunctionDef, ast.ClassDef))}


class InterfaceTest(unittest.TestCase):
    def test_names_are_defined_in_their_files(self):
        for file, names in LISTED.items():
            tree = ast.parse((PACKAGE / file).read_text(encoding="utf-8"))
            with self.subTest(file=file):
                self.assertEqual(set(names) - defined_in(tree.body), set())

    def test_methods_are_defined_in_their_class(self):
        self.assertIn("number_of", vars(families.Family))
        self.assertIn("__init__", vars(families.Family))

    def test_arguments_of_changes_by_name(self):
        given = [(1, 0, 2), (0, 2, 1)]
        made = changes.all_changes(symbols=3, given=given)
        self.assertEqual(len(made), 6)
        self.assertEqual(changes.way_to(symbols=3, given=given, change=(2, 0, 1)), (0, 1))
        self.assertEqual(changes.composed(first=(1, 0, 2), second=(0, 2, 1)), (2, 0, 1))
        self.assertEqual(changes.inverse(change=(1, 2, 0)), (2, 0, 1))
        self.assertEqual(changes.order_of(change=(1, 2, 0)), 3)
        self.assertEqual(changes.symbol_orbits(changes=made), ((0, 1, 2),))
        self.assertEqual(changes.kept_by(changes=made, symbol=2), ((0, 1, 2), (1, 0, 2)))

    def test_arguments_of_families_by_name(self):
        family = families.Family(symbols=3, positions=2, outputs=1, changes=[(1, 0, 2)], constants=[2])
        self.assertEqual(family.number_of(source=(1, 1)), 3)
        self.assertEqual(families.check_source(family=family, source=[1, 1]), (1, 1))
        self.assertEqual(families.shown(family=family, source=(1, 1), given=(2, 0)), 1)
        self.assertEqual(families.settled_wiring(family=family, wiring=[2]), (2,))
        self.assertEqual(families.settled_inputs(family=family, inputs=[[0, 1]]), ((0, 1),))
        told = families.settled_outputs(family=family, inputs=[[0, 1]], outputs=[[2]])
        self.assertEqual(told, ((2,),))


if __name__ == "__main__":
    unittest.main()

"""The examples of [1], the names and arguments of the interface, and the form of the package's files."""

import doctest
import importlib
import inspect
import pathlib
import unittest

from lastofkind.covers import best_kinds, uncovered
from lastofkind.kinds import compacted, fault
from lastofkind.systems import outcome

PACKAGE = pathlib.Path(__file__).resolve().parent.parent / "lastofkind"

FUNCTIONS = {
    "lastofkind.systems": {
        "is_system": ["thing"],
        "run": ["system", "state", "log"],
        "outcome": ["system", "log"],
        "reachable": ["system"],
        "path": ["system", "state"],
        "apart": ["system", "one", "other"],
    },
    "lastofkind.kinds": {
        "compacted": ["system", "log"],
        "fault": ["system"],
        "shows_fault": ["system", "thing"],
        "changed": ["system"],
        "shows_changed": ["system", "thing"],
    },
    "lastofkind.covers": {
        "uncovered": ["system", "first", "second"],
        "shows_uncovered": ["system", "first", "second", "thing"],
        "coverage": ["system"],
        "best_kinds": ["system"],
        "thinned": ["system", "log"],
    },
    "lastofkind.repeats": {
        "unsteady": ["system", "operation"],
        "repeat_fault": ["system"],
        "firsts": ["system", "log"],
    },
    "lastofkind.orders": {
        "order_fault": ["system"],
        "orders": ["system", "log"],
        "by_set": ["system"],
    },
}


class Examples(unittest.TestCase):
    def test_two_cells(self):
        cells = (4, 0, ((0, 1, 0, 1), (2, 3, 2, 3), (0, 0, 2, 2), (1, 1, 3, 3)), (0, 0, 1, 1))
        self.assertEqual(outcome(cells, (1, 2, 0, 3)), 1)
        self.assertEqual(compacted(cells, (1, 2, 0, 3)), (0, 3))
        self.assertIsNone(fault(cells))

    def test_turns(self):
        turns = (3, 0, ((1, 2, 0), (0, 0, 0)), (0, 0))
        self.assertEqual(fault(turns), (0, (0, 0)))
        self.assertIsNone(uncovered(turns, 0, 1))
        self.assertEqual(best_kinds(turns), (None, 0))

    def test_the_examples_of_the_readme(self):
        found = doctest.testfile(str(PACKAGE.parent / "README.md"), module_relative=False)
        self.assertEqual(found.failed, 0)
        self.assertGreater(found.attempted, 0)


class Interface(unittest.TestCase):
    def test_functions_are_defined_in_their_files(self):
        for file, functions in FUNCTIONS.items():
            module = importlib.import_module(file)
            for name, arguments in functions.items():
                with self.subTest(name=name):
                    function = getattr(module, name)
                    self.assertTrue(inspect.isfunction(function))
                    self.assertEqual(function.__module__, file)
                    self.assertEqual(list(inspect.signature(function).parameters), arguments)


class Form(unittest.TestCase):
    def sources(self):
        return sorted(PACKAGE.rglob("*.py"))

    def test_the_folder_holds_nothing_but_python_files(self):
        for found in PACKAGE.rglob("*"):
            if "__pycache__" not in found.parts:
                self.assertTrue(found.suffix == ".py" or found.is_dir(), found)

    def test_sizes_and_characters(self):
        for source in self.sources():
            text = source.read_text(encoding="utf-8")
            lines = text.split("\n")
            self.assertLessEqual(len(lines), 400, source)
            for line in lines:
                self.assertLessEqual(len(line), 120, (source, line))
                self.assertTrue(all(" " <= character <= "~" for character in line), (source, line))


if __name__ == "__main__":
    unittest.main()

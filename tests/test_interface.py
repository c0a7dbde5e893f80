"""The examples of [1], the names and arguments of the interface, and the form of the package's files."""

import doctest
import importlib
import inspect
import pathlib
import unittest

from lastofkind.covers import best_kinds, uncovered
from lastofkind.effects import Effect
from lastofkind.kinds import compacted, fault
from lastofkind.stores import Limited, LimitedThin, Store
from lastofkind.systems import outcome

PACKAGE = pathlib.Path(__file__).resolve().parent.parent / "lastofkind"

FUNCTIONS = {
    "lastofkind.systems": {
        "is_system": ["thing"],
        "run": ["system", "state", "log"],
        "outcome": ["system", "log"],
        "reachable": ["system"],
        "path": ["system", "state"],
        "apart": ["system", "one", "other"],
    },
    "lastofkind.kinds": {
        "compacted": ["system", "log"],
        "fault": ["system"],
        "shows_fault": ["system", "thing"],
        "changed": ["system"],
        "shows_changed": ["system", "thing"],
    },
    "lastofkind.covers": {
        "uncovered": ["system", "first", "second"],
        "shows_uncovered": ["system", "first", "second", "thing"],
        "coverage": ["system"],
        "best_kinds": ["system"],
        "thinned": ["system", "log"],
    },
    "lastofkind.repeats": {
        "unsteady": ["system", "operation"],
        "repeat_fault": ["system"],
        "firsts": ["system", "log"],
    },
    "lastofkind.orders": {
        "order_fault": ["system"],
        "orders": ["system", "log"],
        "by_set": ["system"],
    },
    "lastofkind.texts": {
        "system_text": ["system"],
        "read_system": ["text"],
    },
}

# Each class with its file, the bases that are promised, and what stands in its own body: arguments, or what it is.
CLASSES = {
    "Effect": ("lastofkind.effects", [], {
        "__init__": ["self", "system", "moves"], "of": classmethod, "joined": staticmethod, "system": property,
        "moves": property, "fixed": property, "__add__": 2, "__mul__": 2, "__call__": ["self", "state"], "__eq__": 2,
        "__repr__": 1,
    }),
    "Store": ("lastofkind.stores", [], {
        "__init__": ["self", "system"], "system": property, "entries": property, "outcome": property,
        "changes": property, "assign_entries": ["self", "log"], "extend": ["self", "log"], "add": ["self", "operation"],
        "__call__": ["self", "operation"], "undo": ["self"], "trying": ["self"], "__len__": 1, "__getitem__": 2,
        "__contains__": 2, "__eq__": 2, "__repr__": 1,
    }),
    "Compact": ("lastofkind.stores", ["Store"], {"__init__": ["self", "system"]}),
    "Thin": ("lastofkind.stores", ["Store"], {"__init__": ["self", "system"]}),
    "Once": ("lastofkind.stores", ["Store"], {"__init__": ["self", "system"]}),
    "Limited": ("lastofkind.stores", ["Store"], {"__init__": ["self", "system", "most"], "most": property}),
    "LimitedThin": (
        "lastofkind.stores", ["Store", "Limited", "Thin"],
        {"__init__": ["self", "system", "most"], "most": property},
    ),
}


class Examples(unittest.TestCase):
    def test_two_cells(self):
        cells = (4, 0, ((0, 1, 0, 1), (2, 3, 2, 3), (0, 0, 2, 2), (1, 1, 3, 3)), (0, 0, 1, 1))
        self.assertEqual(outcome(cells, (1, 2, 0, 3)), 1)
        self.assertEqual(compacted(cells, (1, 2, 0, 3)), (0, 3))
        self.assertIsNone(fault(cells))

    def test_turns(self):
        turns = (3, 0, ((1, 2, 0), (0, 0, 0)), (0, 0))
        self.assertEqual(fault(turns), (0, (0, 0)))
        self.assertIsNone(uncovered(turns, 0, 1))
        self.assertEqual(best_kinds(turns), (None, 0))

    def test_the_examples_of_the_readme(self):
        found = doctest.testfile(str(PACKAGE.parent / "README.md"), module_relative=False)
        self.assertEqual(found.failed, 0)
        self.assertGreater(found.attempted, 0)


class Interface(unittest.TestCase):
    def test_functions_are_defined_in_their_files(self):
        for file, functions in FUNCTIONS.items():
            module = importlib.import_module(file)
            for name, arguments in functions.items():
                with self.subTest(name=name):
                    function = getattr(module, name)
                    self.assertTrue(inspect.isfunction(function))
                    self.assertEqual(function.__module__, file)
                    self.assertEqual(list(inspect.signature(function).parameters), arguments)


    def test_classes_are_defined_in_their_files(self):
        for name, (file, bases, members) in CLASSES.items():
            module = importlib.import_module(file)
            made = getattr(module, name)
            self.assertTrue(inspect.isclass(made))
            self.assertEqual((made.__module__, made.__name__), (file, name))
            for base in bases:
                self.assertTrue(issubclass(made, getattr(module, base)))
            for member, form in members.items():
                with self.subTest(name=name, member=member):
                    found = vars(made)[member]
                    if form in (classmethod, staticmethod, property):
                        self.assertIs(type(found), form)
                    else:
                        arguments = list(inspect.signature(found).parameters)
                        self.assertEqual(arguments if isinstance(form, list) else len(arguments), form)

    def test_arguments_of_static_and_class_methods(self):
        self.assertEqual(list(inspect.signature(Effect.of).parameters), ["system", "log"])
        self.assertEqual(list(inspect.signature(Effect.joined).parameters), ["effects"])

    def test_the_limit_that_stands_without_a_word(self):
        for made in (Limited, LimitedThin):
            self.assertEqual(inspect.signature(made).parameters["most"].default, 5)

    def test_entries_alone_can_be_assigned(self):
        self.assertIsNotNone(Store.entries.fset)
        for found in (Store.system, Store.outcome, Store.changes, Limited.most, Effect.moves, Effect.fixed):
            self.assertIsNone(found.fset)


class Form(unittest.TestCase):
    def sources(self):
        return sorted(PACKAGE.rglob("*.py"))

    def test_the_folder_holds_nothing_but_python_files(self):
        for found in PACKAGE.rglob("*"):
            if "__pycache__" not in found.parts:
                self.assertTrue(found.suffix == ".py" or found.is_dir(), found)

    def test_sizes_and_characters(self):
        for source in self.sources():
            text = source.read_text(encoding="utf-8")
            lines = text.split("\n")
            self.assertLessEqual(len(lines), 400, source)
            for line in lines:
                self.assertLessEqual(len(line), 120, (source, line))
                self.assertTrue(all(" " <= character <= "~" for character in line), (source, line))


if __name__ == "__main__":
    unittest.main()

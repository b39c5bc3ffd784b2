"""The interface: each name stands in its file, with its arguments as written, and each method in its class."""

import ast
import importlib
import inspect
import pathlib
import unittest

from crossloom import errors
from crossloom.buckets import Bucket
from crossloom.clos import Clos
from crossloom.colours import Calls
from crossloom.crossbars import Crossbar
from crossloom.desks import Desk
from crossloom.elements import Net
from crossloom.grids import Cube, Grid
from crossloom.marks import Link
from crossloom.matches import Turns
from crossloom.mimics import Ideal, Mimic
from crossloom.rooms import Room
from crossloom.rounds import Deficits
from crossloom.spreads import Spread
from crossloom.switches import Stream, Switch
from crossloom.throws import Throws
from crossloom.times import Exchange
from crossloom.trees import Tree
from crossloom.worms import Worms
from tests.interface import INTERFACE

PACKAGE = pathlib.Path(__file__).resolve().parent.parent / "crossloom"


def told(module):
    """Return the lines that the interface has for a module, methods with their class ahead, and its fields."""
    lines = []
    fields = {}
    owner = None
    for line in INTERFACE[module].strip().splitlines():
        line = line[8:] if line.startswith(" " * 8) else line
        if line.startswith("    fields "):
            fields[owner] = line.removeprefix("    fields ").split(", ")
        elif line.startswith("    "):
            lines.append(f"{owner}.{line.strip()}")
        else:
            owner = line.removeprefix("class ").partition("(")[0]
            lines.append(line)
    return lines, fields


def signature(node, name, skipped):
    """Return a function's name and arguments as the interface writes them, the first ones left out."""
    words = ast.unparse(node.args).split(", ")
    return f"{name}({', '.join([word for word in words if word][skipped:])})"


def written(module):
    """Return the lines that the interface could have for a module, by its source."""
    lines = []
    for node in ast.parse((PACKAGE / f"{module}.py").read_text()).body:
        if isinstance(node, ast.FunctionDef):
            lines.append(signature(node, node.name, 0))
        if isinstance(node, ast.ClassDef) and node.bases:
            lines.append(f"class {node.name}({', '.join(ast.unparse(base) for base in node.bases)})")
        if isinstance(node, ast.ClassDef) and not node.bases:
            for part in node.body:
                if isinstance(part, ast.FunctionDef):
                    name = f"class {node.name}" if part.name == "__init__" else f"{node.name}.{part.name}"
                    lines.append(signature(part, name, 1))
    return lines


class Interface(unittest.TestCase):
    def test_each_name_is_defined_in_its_file_with_its_arguments(self):
        for module in INTERFACE:
            lines = written(module)
            for line in told(module)[0]:
                self.assertEqual(lines.count(line), 1, (module, line))

    def test_each_name_can_be_imported_from_its_module(self):
        for module in INTERFACE:
            found = importlib.import_module(f"crossloom.{module}")
            for line in told(module)[0]:
                owner, _, method = line.removeprefix("class ").partition("(")[0].partition(".")
                thing = getattr(found, owner)
                self.assertEqual(thing.__module__, f"crossloom.{module}")
                self.assertTrue(method == "" or inspect.isfunction(vars(thing)[method]), line)

    def test_fields_are_set_when_an_object_is_made(self):
        for module, name, thing in self.objects():
            self.assertEqual(set(told(module)[1][name]) - set(vars(thing)), set())

    def objects(self):
        """Return a new object of each class that has fields, with its module."""
        return [
            ("elements", "Net", Net(2, [[0, 1], [1, 0]])),
            ("colours", "Calls", Calls([(0, 1)], 1, 2)),
            ("clos", "Clos", Clos(1, 2, 3)),
            ("matches", "Turns", Turns(2)),
            ("buckets", "Bucket", Bucket(2, 1)),
            ("rounds", "Deficits", Deficits((1, 2))),
            ("crossbars", "Crossbar", Crossbar(2)),
            ("mimics", "Ideal", Ideal(2)),
            ("mimics", "Mimic", Mimic(2)),
            ("grids", "Grid", Grid(2, 1, False)),
            ("grids", "Cube", Cube(1)),
            ("worms", "Worms", Worms((((0, 1), 1),))),
            ("marks", "Link", Link(1, 1, 1)),
            ("rooms", "Room", Room(1, 0)),
            ("throws", "Throws", Throws(Cube(1), ())),
            ("trees", "Tree", Tree(1, 1, 1)),
            ("times", "Exchange", Exchange(1, 1, 1)),
            ("spreads", "Spread", Spread(2)),
            ("switches", "Stream", Stream(0, 1, 2, 3)),
            ("switches", "Switch", Switch(2, 3)),
            ("desks", "Desk", Desk()),
        ]

    def test_each_class_with_fields_is_seen(self):
        seen = [(module, name) for module, name, _ in self.objects()]
        self.assertEqual(seen, [(module, name) for module in INTERFACE for name in told(module)[1]])


class Errors(unittest.TestCase):
    def test_all_stand_under_the_one(self):
        self.assertEqual(errors.FabricFault.__bases__, (ValueError,))
        for line in told("errors")[0][1:]:
            name = line.removeprefix("class ").partition("(")[0]
            kind = getattr(errors, name)
            self.assertEqual(kind.__bases__, (errors.FabricFault,))
            with self.assertRaises(errors.FabricFault):
                raise kind("refused")

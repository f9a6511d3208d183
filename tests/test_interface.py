"""Promise 1 and the interface: where each thing stands, and that nothing comes from outside."""

import ast
import inspect
import pathlib
import unittest

import oddpairs
from oddpairs import errors, fences, keeping, nets, notes, pairings, sides, ways

FOLDER = pathlib.Path(oddpairs.__file__).parent

FUNCTIONS = {
    "parts": (nets, ["net", "taken"]),
    "checked": (pairings, ["net", "pairs"]),
    "alone": (pairings, ["net", "pairs"]),
    "turned": (pairings, ["net", "pairs", "way"]),
    "better": (ways, ["net", "pairs"]),
    "most": (ways, ["net"]),
    "fence": (fences, ["net"]),
    "leaving": (fences, ["net", "place"]),
    "having": (fences, ["net", "place"]),
    "sort_of": (fences, ["net", "place"]),
    "sides": (sides, ["net"]),
    "odd_ring": (sides, ["net"]),
    "cover": (sides, ["net"]),
    "shown": (notes, ["net"]),
    "read": (notes, ["line"]),
}

CLASSES = ("NetError", "BadNet", "NoPlace", "BadPairs", "BadWay", "TieThere", "NoTie", "OddRing")

# The library that LANGUAGE.md lets the package take names from; none of it is a clock, chance or a file.
LIBRARY = ("heapq", "math", "itertools", "collections", "__future__")

OUTSIDE = ("open", "input", "print", "eval", "exec", "compile", "globals", "hash", "id", "breakpoint")


def arguments(call):
    return list(inspect.signature(call).parameters)


class InterfaceTest(unittest.TestCase):
    def test_functions_stand_in_their_files(self):
        for name, (module, names) in FUNCTIONS.items():
            with self.subTest(name):
                call = getattr(module, name)
                self.assertTrue(inspect.isfunction(call))
                self.assertEqual(call.__module__, module.__name__)
                self.assertEqual(arguments(call), names)

    def test_errors_stand_in_their_file(self):
        for name in CLASSES:
            with self.subTest(name):
                self.assertEqual(getattr(errors, name).__module__, "oddpairs.errors")

    def test_net_has_its_methods_itself(self):
        self.assertEqual(nets.Net.__module__, "oddpairs.nets")
        self.assertEqual(arguments(nets.Net), ["size", "ties"])
        self.assertEqual(arguments(nets.Net.__dict__["ties"]), ["self"])
        self.assertEqual(arguments(nets.Net.__dict__["beside"]), ["self", "place"])

    def test_kept_has_its_methods_itself(self):
        self.assertEqual(keeping.Kept.__module__, "oddpairs.keeping")
        self.assertEqual(arguments(keeping.Kept), ["size"])
        self.assertEqual(arguments(keeping.Kept.__dict__["put"]), ["self", "one", "other"])
        self.assertEqual(arguments(keeping.Kept.__dict__["cut"]), ["self", "one", "other"])
        self.assertEqual(arguments(keeping.Kept.__dict__["net"]), ["self"])
        self.assertEqual(arguments(keeping.Kept.__dict__["pairs"]), ["self"])

    def test_arguments_may_be_told_by_their_names(self):
        net = nets.Net(size=4, ties=[(0, 1), (2, 3)])
        self.assertEqual(net.beside(place=2), [3])
        self.assertEqual(nets.parts(net=net, taken=[0]), [[1], [2, 3]])
        self.assertEqual(pairings.checked(net=net, pairs=[]), [])
        self.assertEqual(pairings.alone(net=net, pairs=[]), [0, 1, 2, 3])
        self.assertEqual(pairings.turned(net=net, pairs=[], way=[3, 2]), [(2, 3)])
        self.assertIsNone(ways.better(net=net, pairs=[(0, 1), (2, 3)]))
        self.assertEqual(ways.most(net=net), [(0, 1), (2, 3)])
        self.assertEqual(fences.fence(net=net), [])
        self.assertIsNone(fences.leaving(net=net, place=1))
        self.assertEqual(fences.having(net=net, place=1), [(0, 1), (2, 3)])
        self.assertEqual(fences.sort_of(net=net, place=1), "bound")
        self.assertEqual(sides.sides(net=net), [0, 1, 0, 1])
        self.assertIsNone(sides.odd_ring(net=net))
        self.assertEqual(len(sides.cover(net=net)), 2)
        self.assertEqual(notes.shown(net=net), "4: 0-1 2-3")
        self.assertEqual(notes.read(line="4: 0-1 2-3").ties(), [(0, 1), (2, 3)])
        kept = keeping.Kept(size=4)
        self.assertEqual(kept.put(one=1, other=0), 1)
        self.assertEqual(kept.cut(one=0, other=1), -1)


class NothingFromOutsideTest(unittest.TestCase):
    def trees(self):
        for path in sorted(FOLDER.rglob("*.py")):
            yield path.name, ast.parse(path.read_text(encoding="utf-8"))

    def test_imports_come_from_the_package_alone(self):
        for name, tree in self.trees():
            for node in ast.walk(tree):
                with self.subTest(name):
                    self.assertNotIsInstance(node, ast.Import)
                    if isinstance(node, ast.ImportFrom):
                        self.assertEqual(node.level, 0)
                        self.assertIn(node.module.split(".")[0], LIBRARY + ("oddpairs",))

    def test_nothing_is_opened_or_printed(self):
        for name, tree in self.trees():
            for node in ast.walk(tree):
                if isinstance(node, ast.Name):
                    with self.subTest(name, line=node.lineno):
                        self.assertNotIn(node.id, OUTSIDE)
                        self.assertFalse(node.id.startswith("__"))

    def test_the_folder_holds_python_files_alone(self):
        for path in FOLDER.rglob("*"):
            if "__pycache__" not in path.parts:
                with self.subTest(str(path)):
                    self.assertEqual(path.suffix, ".py")


if __name__ == "__main__":
    unittest.main()

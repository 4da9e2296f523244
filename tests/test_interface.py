import ast
import pathlib
import unittest

import lastseen
from lastseen.boards import Board
from lastseen.errors import BadText

FILES = sorted(pathlib.Path(lastseen.__file__).parent.iterdir())

FUNCTIONS = {
    "rules": {"aged": ["rule", "mark", "begin", "end"]},
    "spans": {"span": ["rule", "now", "mark"], "off": ["rule"], "reach": ["rule"]},
    "fewest": {"fewest": ["kind", "far", "near"]},
    "boards": {"played": ["rule", "things", "steps"]},
    "notes": {"written": ["steps"], "read": ["text"]},
}

CLASSES = {
    "errors": {"SeenError": {}, "BadRule": {}, "BadMark": {}, "BadMoment": {}, "BadBounds": {},
               "NoRule": {}, "BadThings": {}, "NoThing": {}, "BadText": {}},
    "boards": {"Board": {"__init__": ["self", "rule", "things"], "see": ["self", "thing"],
                         "pass_by": ["self", "many"], "marks": ["self"], "ages": ["self"],
                         "oldest": ["self"], "now": ["self"]}},
}


def rows_of(name):
    path = pathlib.Path(lastseen.__file__).parent / (name + ".py")
    return ast.parse(path.read_text()).body


def defined(rows, kind):
    return {row.name: row for row in rows if isinstance(row, kind)}


def parameters(function):
    return [parameter.arg for parameter in function.args.args]


class Interface(unittest.TestCase):
    def test_each_function_is_defined_in_its_file(self):
        for name, functions in FUNCTIONS.items():
            found = defined(rows_of(name), ast.FunctionDef)
            for function, names in functions.items():
                self.assertIn(function, found)
                self.assertEqual(parameters(found[function]), names)

    def test_each_class_and_its_methods_are_defined_in_their_file(self):
        for name, classes in CLASSES.items():
            found = defined(rows_of(name), ast.ClassDef)
            for kind, methods in classes.items():
                self.assertIn(kind, found)
                own = defined(found[kind].body, ast.FunctionDef)
                for method, names in methods.items():
                    self.assertIn(method, own)
                    self.assertEqual(parameters(own[method]), names)

    def test_each_is_called_by_the_names_of_its_arguments(self):
        from lastseen.boards import played
        from lastseen.fewest import fewest
        from lastseen.notes import read, written
        from lastseen.rules import aged
        from lastseen.spans import off, reach, span
        rule = ("count", 2, 3)
        self.assertEqual(aged(rule=rule, mark=0, begin=2, end=6), 2)
        self.assertEqual(span(rule=rule, now=10, mark=2), (5, 7))
        self.assertEqual((off(rule=rule), reach(rule=rule)), (2, 6))
        self.assertEqual(fewest(kind="count", far=6, near=2)[0], rule)
        self.assertEqual(played(rule=rule, things=1, steps=[("see", 0)])[0], [None])
        self.assertEqual(read(text=written(steps=[("see", 0)])), [("see", 0)])
        board = Board(rule=rule, things=1)
        self.assertIsNone(board.see(thing=0))
        self.assertEqual(board.pass_by(many=2), 2)
        self.assertEqual(BadText(2).row, 2)


class NothingElse(unittest.TestCase):
    def test_files_of_the_package(self):
        self.assertEqual([path.name for path in FILES if path.name != "__pycache__"],
                         ["__init__.py", "boards.py", "errors.py", "fewest.py", "notes.py", "rules.py",
                          "spans.py"])

    def test_no_clock_no_chance_and_no_files(self):
        """Only the package itself is imported, and nothing that opens or reads in."""
        for path in FILES:
            if path.suffix == ".py":
                for part in ast.walk(ast.parse(path.read_text())):
                    self.assertNotIsInstance(part, ast.Import, path)
                    if isinstance(part, ast.ImportFrom):
                        self.assertTrue(part.module.startswith("lastseen."), path)
                    if isinstance(part, ast.Name):
                        self.assertNotIn(part.id, ("open", "input", "print", "exec", "eval", "hash", "id"))

    def test_all_numbers_are_whole(self):
        for path in FILES:
            if path.suffix == ".py":
                for part in ast.walk(ast.parse(path.read_text())):
                    self.assertNotIsInstance(part, ast.Div, path)
                    if isinstance(part, ast.Constant):
                        self.assertNotIsInstance(part.value, float, path)


if __name__ == "__main__":
    unittest.main()

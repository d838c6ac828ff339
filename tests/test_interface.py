"""The interface's names stand where the document lists them, and the files keep to their measures."""

import ast
import pathlib
import unittest

import mathgalley

PACKAGE = pathlib.Path(mathgalley.__file__).parent

FUNCTIONS = {
    "sources": {"parse": ["text"], "text_of": ["formula"], "rows_of": ["formula"], "check_formula": ["formula"]},
    "fonts": {"scaled": ["number", "style"]},
    "spacing": {"classes_of": ["font", "row"], "space_between": ["font", "left", "right", "style"]},
    "boxes": {
        "measure": ["font", "formula", "style"], "layout": ["font", "formula", "style"],
        "placed_rows": ["font", "formula", "style"],
    },
    "breaking": {
        "check_settings": ["value"], "chances": ["font", "formula"], "lines_of": ["font", "formula", "breaks"],
        "cost_of": ["font", "formula", "settings", "breaks"], "break_lines": ["font", "formula", "settings"],
    },
    "papers": {
        "judge_lines": ["font", "formula", "settings", "paper"],
        "judge_breaks": ["font", "formula", "settings", "breaks", "paper"],
        "explain_lines": ["font", "formula", "settings"],
        "explain_breaks": ["font", "formula", "settings", "breaks"],
    },
    "carets": {
        "carets": ["font", "formula", "style"], "nearest": ["font", "formula", "style", "x", "y"],
        "caret_place": ["formula", "number"], "caret_number": ["formula", "row", "offset"],
    },
}
CLASSES = {
    "errors": {
        "SetError": {}, "SyntaxFault": {"__init__": ["self", "place"]}, "UnknownSymbol": {"__init__": ["self", "name"]},
        "TooLong": {}, "TooDeep": {}, "TooLarge": {}, "BadFont": {}, "BadStyle": {}, "BadSettings": {},
        "BadBreaks": {}, "NoSuchCaret": {}, "CaretsApart": {}, "CaretsReversed": {}, "HistoryFull": {},
    },
    "fonts": {
        "Font": {
            "__init__": ["self", "symbols", "lengths"], "__eq__": ["self", "other"], "__len__": ["self"],
            "class_of": ["self", "name"], "metrics": ["self", "name", "style"],
            "stretched": ["self", "name", "style", "length"],
        },
    },
    "editors": {
        "Editor": {
            "__init__": ["self", "font", "style"], "__len__": ["self"], "__iter__": ["self"],
            "replace": ["self", "first", "last", "text"], "between": ["self", "first", "last"],
            "set_style": ["self", "style"], "undo": ["self"], "redo": ["self"], "layout": ["self"],
            "carets": ["self"], "nearest": ["self", "x", "y"], "texts": ["self"], "tried": ["self"],
            "foresee": ["self", "first", "last", "text"],
        },
    },
}


def tree_of(module):
    return ast.parse((PACKAGE / f"{module}.py").read_text(encoding="utf-8"))


def signatures(nodes):
    return {node.name: [arg.arg for arg in node.args.args] for node in nodes if isinstance(node, ast.FunctionDef)}


class Interface(unittest.TestCase):

    def test_functions_are_defined_in_their_files(self):
        for module, wanted in FUNCTIONS.items():
            found = signatures(tree_of(module).body)
            for name, arguments in wanted.items():
                self.assertEqual(found.get(name), arguments, name)

    def test_classes_and_their_methods_are_defined_in_their_files(self):
        for module, wanted in CLASSES.items():
            found = {node.name: node for node in tree_of(module).body if isinstance(node, ast.ClassDef)}
            for name, methods in wanted.items():
                self.assertIn(name, found)
                own = signatures(found[name].body)
                for method, arguments in methods.items():
                    self.assertEqual(own.get(method), arguments, (name, method))


class Measures(unittest.TestCase):
    """What LANGUAGE.md says of files, sizes, characters and imports."""

    def files(self):
        return sorted(PACKAGE.glob("*"))

    def test_the_package_holds_only_plain_files(self):
        for path in self.files():
            if path.name != "__pycache__":
                self.assertTrue(path.is_file() and path.suffix == ".py" and path.stem.replace("_", "").islower(), path)

    def test_lines_and_characters(self):
        for path in PACKAGE.glob("*.py"):
            text = path.read_text(encoding="utf-8")
            self.assertTrue(all(" " <= sign <= "~" or sign == "\n" for sign in text), path)
            self.assertLessEqual(len(text.splitlines()), 399, path)
            for line in text.splitlines():
                self.assertLessEqual(len(line), 120, path)

    def test_functions_have_at_most_forty_lines(self):
        for path in PACKAGE.glob("*.py"):
            for node in ast.walk(ast.parse(path.read_text(encoding="utf-8"))):
                if isinstance(node, ast.FunctionDef):
                    self.assertLessEqual(node.end_lineno - node.lineno + 1, 40, (path, node.name))

    def test_imports_name_the_file_that_defines_the_name(self):
        for path in PACKAGE.glob("*.py"):
            for node in ast.walk(ast.parse(path.read_text(encoding="utf-8"))):
                self.assertNotIsInstance(node, ast.Import, path)
                if isinstance(node, ast.ImportFrom):
                    self.check_import(path, node)

    def check_import(self, path, node):
        package, _, module = node.module.partition(".")
        self.assertEqual((package, node.level), ("mathgalley", 0), path)
        defined = set()
        for statement in tree_of(module).body:
            if isinstance(statement, (ast.FunctionDef, ast.ClassDef)):
                defined.add(statement.name)
            if isinstance(statement, ast.Assign):
                defined.add(statement.targets[0].id)
        for alias in node.names:
            self.assertIn(alias.name, defined, path)
            self.assertIsNone(alias.asname, path)


if __name__ == "__main__":
    unittest.main()

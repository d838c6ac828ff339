"""Two rules of LANGUAGE.md that a reader easily oversees: barred names (L12), and what `+=` is handed (L5, L23)."""

import ast
import pathlib
import re
import unittest

import mathgalley

PACKAGE = pathlib.Path(mathgalley.__file__).parent

PLAIN = re.compile(r"_|_?[A-Za-z][A-Za-z0-9_]*|__[a-z]+__")
BARRED = re.compile(
    r"(_wall|_pe_|_dcw_|_enum_|_cm_|_twin_re_|_lay_|_law_|_stub_|_sre|_WallAttr)"
    r"|(_cold|_tuplegetter|_outside|_record|_written_out|_member_names)[0-9_]*$")


def is_allowed(name):
    """Whether a name is plain and not barred; stricter than L12 for attributes that begin with _wall."""
    return PLAIN.fullmatch(name) is not None and BARRED.match(name) is None


def names_in(tree):
    """All names in a file, of whatever kind."""
    for node in ast.walk(tree):
        for field in ("id", "attr", "arg", "name", "asname", "rest"):
            value = getattr(node, field, None)
            if isinstance(value, str):
                yield value
        if isinstance(node, (ast.Nonlocal, ast.Global)):
            yield from node.names


def roots(node):
    """The plain names in an expression, other than those of functions that are called."""
    called = {id(inner.func) for inner in ast.walk(node) if isinstance(inner, ast.Call)}
    return {inner.id for inner in ast.walk(node) if isinstance(inner, ast.Name) and id(inner) not in called}


def hangs_on(function, names):
    """Names, and those that they were made from in a function."""
    found = set(names)
    many = -1
    while many < len(found):
        many = len(found)
        for node in ast.walk(function):
            if isinstance(node, ast.Assign):
                targets, value = node.targets, node.value
            elif isinstance(node, (ast.For, ast.comprehension)):
                targets, value = [node.target], node.iter
            else:
                continue
            if any(roots(target) & found for target in targets):
                found |= roots(value)
    return found


def is_number(node):
    return isinstance(node, ast.Constant) or (
        isinstance(node, ast.Call) and isinstance(node.func, ast.Name) and node.func.id in ("len", "sum"))


def added(node):
    """The pair of what +=, |=, extend or update changes and of what it is handed, or None."""
    if isinstance(node, ast.AugAssign) and isinstance(node.op, (ast.Add, ast.BitOr)):
        return node.target, node.value
    if isinstance(node, ast.Call) and isinstance(node.func, ast.Attribute) and node.func.attr in ("extend", "update"):
        return node.func.value, node.args[0]
    return None


def faults_of(tree):
    """The rows in which something is handed what hangs on what is changed."""
    rows = []
    for function in ast.walk(tree):
        if isinstance(function, ast.FunctionDef):
            pairs = [pair for pair in map(added, ast.walk(function)) if pair is not None and not is_number(pair[1])]
            rows += [into.lineno for into, what in pairs if roots(into) & hangs_on(function, roots(what))]
    return rows


def trees():
    return {path.name: ast.parse(path.read_text(encoding="utf-8")) for path in sorted(PACKAGE.glob("*.py"))}


class Names(unittest.TestCase):

    def test_the_check_knows_barred_names(self):
        for name in ("_lay_out", "_lay_", "_law_x", "_sre", "_sre_x", "_record", "_record_2", "_cold_", "_pe_x",
                     "_walls", "__x", "_2", "x.y"):
            self.assertFalse(is_allowed(name), name)
        for name in ("_", "_x", "_laid_out", "_layout", "lay_out", "_records", "_colder", "_peek", "__init__", "x_2"):
            self.assertTrue(is_allowed(name), name)

    def test_the_package_has_none(self):
        for file, tree in trees().items():
            for name in names_in(tree):
                for part in name.split("."):
                    self.assertTrue(is_allowed(part), (file, name))


class Added(unittest.TestCase):

    def test_the_check_finds_what_hangs_on_what_is_changed(self):
        head = "def f(self, xs):\n    a = Make(self.b)\n    c = [d for d in self.e]\n"
        for row in ("self.n += a.n", "self.n += self.k", "self.n.extend(c)", "xs.extend(xs)", "xs |= xs",
                    "xs.update(xs)"):
            self.assertEqual(faults_of(ast.parse(f"{head}    {row}")), [4], row)
        for row in ("self.n += 1", "self.n = self.n + a.n", "xs += c", "xs.extend(a.n)", "self.n.extend(xs)"):
            self.assertEqual(faults_of(ast.parse(f"{head}    {row}")), [], row)

    def test_the_package_has_nothing_of_the_kind(self):
        for file, tree in trees().items():
            self.assertEqual(faults_of(tree), [], file)


if __name__ == "__main__":
    unittest.main()

"""The form of the package's files: those of the language's rules that a look at each file can see."""

import ast
import builtins
import pathlib
import unittest

PACKAGE = pathlib.Path(__file__).resolve().parent.parent / "strokehall"
FILES = sorted(path for path in PACKAGE.rglob("*") if path.is_file() and path.suffix != ".pyc")
TREES = {path.stem: ast.parse(path.read_text()) for path in FILES}

STATEMENTS = (ast.Assign, ast.AugAssign, ast.If, ast.While, ast.For, ast.Return, ast.Break, ast.Continue, ast.Pass,
              ast.Raise, ast.Try, ast.Expr, ast.ImportFrom, ast.FunctionDef, ast.ClassDef)
EXPRESSIONS = (ast.Constant, ast.List, ast.Tuple, ast.Dict, ast.BinOp, ast.UnaryOp, ast.BoolOp, ast.Compare, ast.IfExp,
               ast.Call, ast.Attribute, ast.Subscript, ast.Slice, ast.ListComp, ast.JoinedStr, ast.FormattedValue,
               ast.Name, ast.Lambda)
OPERATORS = (ast.Add, ast.Sub, ast.Mult, ast.FloorDiv, ast.Mod, ast.Pow, ast.BitAnd, ast.BitOr, ast.BitXor,
             ast.LShift, ast.RShift)
OWN_NAMES_OF_PYTHON = set(
    "len range enumerate zip min max sum abs sorted reversed int str bool list tuple dict set frozenset isinstance "
    "ord repr any all divmod Exception ValueError TypeError KeyError IndexError LookupError ZeroDivisionError "
    "ArithmeticError OverflowError RuntimeError NotImplementedError AttributeError StopIteration".split())
METHODS_OF_PYTHON = set(
    "append clear copy count endswith extend find get index insert isalnum isalpha isdigit islower isspace isupper "
    "items join keys ljust lower lstrip partition pop remove replace reverse rfind rjust rpartition rsplit rstrip "
    "setdefault split splitlines startswith strip update upper values zfill bit_length".split())


def nodes(kind):
    return [(stem, node) for stem, tree in TREES.items() for node in ast.walk(tree) if isinstance(node, kind)]


def own_methods():
    return {one.name for stem, node in nodes(ast.ClassDef) for one in node.body if isinstance(one, ast.FunctionDef)}


def bound_names():
    """Every name that a file binds: parameters, locals, names of its top."""
    names = [(stem, node.arg) for stem, node in nodes(ast.arg)]
    names += [(stem, node.id) for stem, node in nodes(ast.Name) if isinstance(node.ctx, ast.Store)]
    return names + [(stem, node.name) for stem, node in nodes((ast.FunctionDef, ast.ClassDef))]


class Form(unittest.TestCase):
    def test_files(self):
        self.assertIn(PACKAGE / "__init__.py", FILES)
        for path in FILES:
            written = path.read_bytes()
            self.assertEqual((path.suffix, path.name.lower(), path.parent), (".py", path.name, PACKAGE))
            self.assertTrue(all(32 <= sign <= 126 or sign == 10 for sign in written), path)
            self.assertLessEqual(len(written.splitlines()), 399, path)
            self.assertLessEqual(max(map(len, written.splitlines())), 120, path)

    def test_length_of_functions(self):
        for stem, node in nodes(ast.FunctionDef):
            self.assertLessEqual(node.end_lineno - node.lineno + 1, 40, (stem, node.name))

    def test_imports(self):
        drawn = {stem: [] for stem in TREES}
        for stem, node in nodes(ast.ImportFrom):
            package, _, source = node.module.partition(".")
            self.assertEqual((package, node.level), ("strokehall", 0))
            defined = [getattr(one, "name", None) or one.targets[0].id for one in TREES[source].body
                       if isinstance(one, (ast.FunctionDef, ast.ClassDef, ast.Assign))]
            for alias in node.names:
                self.assertIn(alias.name, defined, (stem, source))
            drawn[stem].append(source)
        while drawn:
            free = [stem for stem in drawn if not any(source in drawn for source in drawn[stem])]
            self.assertNotEqual(free, [], "files that draw from one another")
            drawn = {stem: sources for stem, sources in drawn.items() if stem not in free}

    def test_statements_and_expressions(self):
        for kind, allowed in ((ast.stmt, STATEMENTS), (ast.expr, EXPRESSIONS), (ast.operator, OPERATORS)):
            for stem, node in nodes(kind):
                self.assertIsInstance(node, allowed, (stem, getattr(node, "lineno", None)))
        for stem, node in nodes((ast.For, ast.While, ast.Assign)):
            self.assertFalse(getattr(node, "orelse", []), stem)
            self.assertEqual(len(getattr(node, "targets", [None])), 1, stem)
        for stem, node in nodes(ast.FunctionDef):
            plain = not (node.args.vararg or node.args.kwarg or node.args.kwonlyargs or node.decorator_list)
            self.assertTrue(plain, (stem, node.name))
        for stem, node in nodes(ast.Constant):
            self.assertIn(type(node.value), (int, str, bool, type(None)), stem)

    def test_names(self):
        for stem, name in bound_names():
            self.assertFalse(name.startswith("_") and name != "__init__", (stem, name))
            self.assertNotIn(name, dir(builtins), stem)
        for stem, node in nodes(ast.Name):
            if isinstance(node.ctx, ast.Load) and hasattr(builtins, node.id):
                self.assertIn(node.id, OWN_NAMES_OF_PYTHON, stem)

    def test_methods_and_values(self):
        methods = own_methods()
        values = {node.attr for stem, node in nodes(ast.Attribute) if isinstance(node.ctx, ast.Store)}
        self.assertEqual(methods & values, set())
        for stem, node in nodes(ast.Attribute):
            self.assertIn(node.attr, methods | values | METHODS_OF_PYTHON, stem)
        for name in methods | values:
            self.assertFalse(any(hasattr(kind, name) for kind in (str, int, list, dict, set, bytes)
                                 if name != "__init__"), name)

    def test_the_top_of_each_file(self):
        for stem, tree in TREES.items():
            self.assertIsNotNone(ast.get_docstring(tree), stem)
            names = [name for one in tree.body for name in self.names_at_top(one)]
            self.assertEqual(len(names), len(set(names)), stem)

    def names_at_top(self, statement):
        if isinstance(statement, ast.Assign):
            ast.literal_eval(statement.value)
            return [statement.targets[0].id]
        if isinstance(statement, ast.ImportFrom):
            return [alias.name for alias in statement.names]
        if isinstance(statement, ast.Expr):
            self.assertIsInstance(statement.value, ast.Constant)
            return []
        return [statement.name]

    def test_the_interface_stands_where_it_is_told(self):
        found = [(stem, [one.arg for one in node.args.args], node.args.defaults)
                 for stem, node in nodes(ast.FunctionDef) if node.name == "answers"]
        self.assertEqual(found, [("keyboard", ["calls"], [])])


if __name__ == "__main__":
    unittest.main()

"""The package's own files keep to the part of Python that the project is written in."""

import ast
import builtins
import pathlib
import re
import unittest

PACKAGE = pathlib.Path(__file__).resolve().parent.parent / "robotviews"

STATEMENTS = (ast.Assign, ast.AugAssign, ast.If, ast.While, ast.For, ast.Return, ast.Break, ast.Continue, ast.Pass,
              ast.Raise, ast.Try, ast.Expr, ast.FunctionDef, ast.ClassDef, ast.ImportFrom)

EXPRESSIONS = (ast.Constant, ast.Name, ast.List, ast.Tuple, ast.Dict, ast.BinOp, ast.UnaryOp, ast.BoolOp, ast.Compare,
               ast.IfExp, ast.Call, ast.Attribute, ast.Subscript, ast.Slice, ast.ListComp, ast.Lambda, ast.JoinedStr,
               ast.FormattedValue)

OWN_NAMES = ("len", "range", "enumerate", "zip", "min", "max", "sum", "abs", "sorted", "reversed", "int", "str", "bool",
             "list", "tuple", "dict", "isinstance", "any", "all")

METHODS = ("append", "extend", "insert", "pop", "index", "count", "get", "items", "copy", "join")

WORDS = ("type", "typing", "typing_extensions", "enum", "Enum", "IntEnum", "StrEnum", "Flag", "IntFlag", "Generic",
         "Protocol", "ABC", "ABCMeta", "namedtuple", "NamedTuple", "TypedDict", "TYPE_CHECKING", "abstractmethod")


def files():
    return sorted(PACKAGE.rglob("*.py"))


def nodes_of(path):
    return list(ast.walk(ast.parse(path.read_text(encoding="utf-8"))))


def names_bound(nodes):
    bound = {node.id for node in nodes if isinstance(node, ast.Name) and not isinstance(node.ctx, ast.Load)}
    bound |= {node.arg for node in nodes if isinstance(node, ast.arg)}
    bound |= {node.name for node in nodes if isinstance(node, (ast.FunctionDef, ast.ClassDef))}
    bound |= {alias.name for node in nodes if isinstance(node, ast.ImportFrom) for alias in node.names}
    return bound


def names_at_the_top(path):
    """What the file itself defines: functions, classes and values."""
    body = ast.parse(path.read_text(encoding="utf-8")).body
    defined = {node.name for node in body if isinstance(node, (ast.FunctionDef, ast.ClassDef))}
    return defined | {node.targets[0].id for node in body if isinstance(node, ast.Assign)}


class Language(unittest.TestCase):
    def test_the_folder_holds_source_files_alone(self):
        self.assertIn(PACKAGE / "__init__.py", files())
        for path in PACKAGE.rglob("*"):
            if path.name != "__pycache__" and path.parent.name != "__pycache__":
                self.assertRegex(path.name, r"^[a-z0-9_]+\.py$")

    def test_size_and_signs(self):
        for path in files():
            rows = path.read_text(encoding="utf-8").split("\n")
            self.assertLessEqual(len(rows), 400, path.name)
            for row in rows:
                self.assertLessEqual(len(row), 120, path.name)
                self.assertRegex(row, r"^[ -~]*$", path.name)

    def test_length_of_functions(self):
        for path in files():
            for node in nodes_of(path):
                if isinstance(node, ast.FunctionDef):
                    self.assertLessEqual(node.end_lineno - node.lineno + 1, 40, f"{path.name}: {node.name}")

    def test_words_that_stand_nowhere(self):
        for path in files():
            words = re.findall(r"\w+", path.read_text(encoding="utf-8"))
            self.assertEqual([word for word in words if word in WORDS], [], path.name)

    def test_statements_and_expressions(self):
        for path in files():
            for node in nodes_of(path):
                where = f"{path.name}:{getattr(node, 'lineno', 0)}"
                if isinstance(node, ast.stmt):
                    self.assertIsInstance(node, STATEMENTS, where)
                if isinstance(node, ast.expr):
                    self.assertIsInstance(node, EXPRESSIONS, where)
                self.assertNotIsInstance(node, ast.Div, where)
                if isinstance(node, ast.Assign):
                    self.assertEqual(len(node.targets), 1, where)
                if isinstance(node, (ast.For, ast.While)):
                    self.assertEqual(node.orelse, [], where)
                if isinstance(node, ast.FunctionDef):
                    self.assertEqual(node.decorator_list, [], where)
                if isinstance(node, ast.Constant):
                    self.assertIsInstance(node.value, (int, str, type(None)), where)

    def test_names(self):
        for path in files():
            nodes = nodes_of(path)
            bound = names_bound(nodes)
            for name in bound - {"__init__"}:
                self.assertRegex(name, r"^[A-Za-z][A-Za-z0-9_]*$", path.name)
                self.assertNotIn(name, dir(builtins), path.name)
            used = {node.id for node in nodes if isinstance(node, ast.Name)}
            self.assertEqual(sorted(used - bound - set(OWN_NAMES)), [], path.name)

    def test_methods(self):
        for path in files():
            for node in nodes_of(path):
                if isinstance(node, ast.Call) and isinstance(node.func, ast.Attribute):
                    self.assertIn(node.func.attr, METHODS, path.name)

    def test_imports_are_the_package_s_own(self):
        for path in files():
            for node in nodes_of(path):
                if isinstance(node, ast.ImportFrom):
                    self.assertEqual(node.level, 0, path.name)
                    self.assertRegex(node.module, r"^robotviews\.[a-z_]+$", path.name)
                    source = PACKAGE / f"{node.module.split('.')[1]}.py"
                    defined = names_at_the_top(source)
                    for alias in node.names:
                        self.assertIn(alias.name, defined, path.name)

    def test_no_two_files_draw_from_one_another(self):
        draws = {path.stem: {node.module.split(".")[1] for node in nodes_of(path) if isinstance(node, ast.ImportFrom)}
                 for path in files()}
        while draws:
            free = [stem for stem, sources in draws.items() if not sources & set(draws)]
            self.assertNotEqual(free, [], draws)
            for stem in free:
                del draws[stem]

    def test_each_name_of_the_top_is_bound_there_alone(self):
        for path in files():
            nodes = nodes_of(path)
            imported = {alias.name for node in nodes if isinstance(node, ast.ImportFrom) for alias in node.names}
            local = {node.arg for node in nodes if isinstance(node, ast.arg)}
            for function in nodes:
                if isinstance(function, ast.FunctionDef):
                    local |= {node.id for node in ast.walk(function)
                              if isinstance(node, ast.Name) and not isinstance(node.ctx, ast.Load)}
            self.assertEqual(local & (imported | names_at_the_top(path)), set(), path.name)


if __name__ == "__main__":
    unittest.main()

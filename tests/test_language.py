"""The form of the package's files: those of the language's rules that can be seen without doubt."""

import ast
import builtins
import pathlib
import unittest

import formoffices

PACKAGE = pathlib.Path(formoffices.__file__).parent

# L8
ALLOWED_NAMES = set("""
    len range enumerate zip min max sum abs sorted reversed int str bool list tuple dict set frozenset isinstance ord
    repr any all divmod Exception ValueError TypeError KeyError IndexError LookupError ZeroDivisionError
    ArithmeticError OverflowError RuntimeError NotImplementedError AttributeError StopIteration object float bytes
""".split())

# L25, and what L26 lets a class of the package's own have besides.
ALLOWED_METHODS = set("""
    append clear copy count endswith extend find get index insert isalnum isalpha isdigit islower isspace isupper items
    join keys ljust lower lstrip partition pop remove replace reverse rfind rjust rpartition rsplit rstrip setdefault
    split splitlines startswith strip update upper values zfill bit_length add discard __init__
""".split())

FORBIDDEN_NODES = (
    ast.With, ast.AsyncWith, ast.Match, ast.Delete, ast.Global, ast.Nonlocal, ast.Assert, ast.Yield, ast.YieldFrom,
    ast.Await, ast.AsyncFor, ast.AsyncFunctionDef, ast.Import, ast.SetComp, ast.DictComp, ast.GeneratorExp,
    ast.NamedExpr, ast.Starred, ast.Div, ast.MatMult,
)


def sources():
    """Give back for each file of the package its path, its text, and its tree; __main__.py may do more than these."""
    found = []
    for path in sorted(PACKAGE.rglob("*.py")):
        if path.name != "__main__.py":
            text = path.read_text(encoding="utf-8")
            found.append((path, text, ast.parse(text)))
    return found


class TheForm(unittest.TestCase):
    def test_the_package_has_files_of_its_language_alone(self):
        others = [
            path for path in PACKAGE.rglob("*")
            if path.is_file() and path.suffix != ".py" and "__pycache__" not in path.parts
        ]
        self.assertEqual(others, [])
        self.assertTrue((PACKAGE / "__init__.py").is_file())
        self.assertEqual([path for path, text, tree in sources() if path.name.startswith("test")], [])

    def test_sizes_and_signs(self):
        for path, text, tree in sources():
            rows = text.split("\n")
            self.assertLessEqual(len(rows), 400, path)
            self.assertLessEqual(max(len(row) for row in rows), 120, path)
            self.assertEqual([sign for sign in text if not (" " <= sign <= "~" or sign == "\n")], [], path)
            for node in ast.walk(tree):
                if isinstance(node, ast.FunctionDef):
                    self.assertLessEqual(node.end_lineno - node.lineno + 1, 40, f"{path}: {node.name}")

    def test_imports_are_of_the_package_alone_and_go_one_way(self):
        drawn = {}
        for path, text, tree in sources():
            drawn[path.stem] = set()
            for node in ast.walk(tree):
                if isinstance(node, ast.ImportFrom) and node.module != "__future__":
                    self.assertEqual(node.level, 0, path)
                    self.assertTrue(node.module.startswith("formoffices."), f"{path}: {node.module}")
                    self.assertNotIn("*", [name.name for name in node.names], path)
                    drawn[path.stem].add(node.module.rpartition(".")[2])
        while drawn:
            leaves = [name for name in drawn if not drawn[name] & set(drawn)]
            self.assertTrue(leaves, f"files that draw from one another: {sorted(drawn)}")
            drawn = {name: drawn[name] for name in drawn if name not in leaves}

    def test_statements_and_expressions(self):
        for path, text, tree in sources():
            for node in ast.walk(tree):
                where = f"{path}:{getattr(node, 'lineno', 0)}: {type(node).__name__}"
                self.assertNotIsInstance(node, FORBIDDEN_NODES, where)
                if isinstance(node, ast.Constant):
                    self.assertNotIsInstance(node.value, (float, complex, bytes), where)
                if isinstance(node, (ast.For, ast.While)):
                    self.assertEqual(node.orelse, [], where)
                if isinstance(node, ast.Try):
                    self.assertEqual(node.finalbody, [], where)
                    self.assertNotIn(None, [handler.type for handler in node.handlers], where)
                if isinstance(node, ast.Assign):
                    self.assertEqual(len(node.targets), 1, where)
                if isinstance(node, (ast.FunctionDef, ast.ClassDef)):
                    self.assertEqual(node.decorator_list, [], where)
                if isinstance(node, ast.arguments):
                    self.assertEqual((node.vararg, node.kwarg, node.kwonlyargs, node.posonlyargs), (None, None, [], []))

    def test_names(self):
        for path, text, tree in sources():
            for node in ast.walk(tree):
                if isinstance(node, ast.Name):
                    self.see_name(path, node.id, isinstance(node.ctx, ast.Load))
                if isinstance(node, ast.arg):
                    self.see_name(path, node.arg, False)
                if isinstance(node, ast.FunctionDef) and not node.name.startswith("__"):
                    self.assertFalse(node.name.startswith("_"), f"{path}: {node.name}")

    def see_name(self, path, name, read):
        self.assertFalse(name.startswith("_"), f"{path}: {name}")
        if hasattr(builtins, name):
            self.assertTrue(read and name in ALLOWED_NAMES, f"{path}: {name}")

    def test_methods_of_python_s_own_values(self):
        taken = set()
        for kind in (str, int, list, dict, set, bytes):
            taken |= set(dir(kind))
        for path, text, tree in sources():
            for node in ast.walk(tree):
                if isinstance(node, ast.Call) and isinstance(node.func, ast.Attribute) and node.func.attr in taken:
                    self.assertIn(node.func.attr, ALLOWED_METHODS, f"{path}:{node.lineno}")

    def test_no_name_is_a_method_here_and_a_value_there(self):
        methods, values = set(), set()
        for path, text, tree in sources():
            for node in ast.walk(tree):
                if isinstance(node, ast.ClassDef):
                    methods |= {part.name for part in node.body if isinstance(part, ast.FunctionDef)}
                if isinstance(node, ast.Attribute) and isinstance(node.ctx, ast.Store):
                    values.add(node.attr)
        self.assertEqual(methods & values, set())


if __name__ == "__main__":
    unittest.main()

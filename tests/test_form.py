"""The program's form: the rules of the language that can be seen in the files themselves."""

import ast
import builtins
import pathlib
import re
import unittest

PACKAGE = pathlib.Path(__file__).resolve().parent.parent / "clocktree"
FILES = sorted(PACKAGE.glob("*.py"))

OWN_NAMES = set("""len range enumerate zip min max sum abs sorted reversed int str bool list tuple dict set frozenset
isinstance ord repr any all divmod Exception ValueError TypeError KeyError IndexError LookupError ZeroDivisionError
ArithmeticError OverflowError RuntimeError NotImplementedError AttributeError StopIteration""".split())
METHODS = set("""append clear copy count endswith extend find get index insert isalnum isalpha isdigit islower isspace
isupper items join keys ljust lower lstrip partition pop remove replace reverse rfind rjust rpartition rsplit rstrip
setdefault split splitlines startswith strip update upper values zfill bit_length""".split())
STATEMENTS = (ast.Assign, ast.AugAssign, ast.If, ast.While, ast.For, ast.Return, ast.Break, ast.Continue, ast.Pass,
              ast.Raise, ast.Try, ast.Expr, ast.FunctionDef, ast.ClassDef, ast.ImportFrom)
NOT_USED = (ast.JoinedStr, ast.SetComp, ast.DictComp, ast.GeneratorExp, ast.NamedExpr, ast.Starred, ast.Div, ast.Set,
            ast.Lambda, ast.Yield, ast.Await, ast.MatMult)
WORDS = re.compile(r"\b(type|typing|typing_extensions|enum|Enum|IntEnum|StrEnum|Flag|IntFlag|Generic|Protocol|ABC|"
                   r"ABCMeta|namedtuple|NamedTuple|TypedDict|TYPE_CHECKING|abstractmethod)\b|"
                   r"dataclass|overload|contextmanager")


def nodes(path, kind):
    return [node for node in ast.walk(ast.parse(path.read_text())) if isinstance(node, kind)]


def bound_names(tree):
    names = [node.id for node in ast.walk(tree) if isinstance(node, ast.Name) and isinstance(node.ctx, ast.Store)]
    return names + [node.arg for node in ast.walk(tree) if isinstance(node, ast.arg)]


def top_names(tree):
    names = []
    for node in tree.body:
        if isinstance(node, (ast.FunctionDef, ast.ClassDef)):
            names.append(node.name)
        if isinstance(node, ast.ImportFrom):
            names += [one.name for one in node.names]
        if isinstance(node, ast.Assign):
            names.append(node.targets[0].id)
    return names


class Form(unittest.TestCase):
    def test_only_plain_files(self):
        others = [path.name for path in PACKAGE.iterdir() if path.suffix != ".py" and path.name != "__pycache__"]
        self.assertEqual(others, [])
        self.assertIn(PACKAGE / "__init__.py", FILES)

    def test_lines(self):
        for path in FILES:
            lines = path.read_text().split("\n")
            self.assertLessEqual(len(lines), 400, path)
            for line in lines:
                self.assertLessEqual(len(line), 120, (path, line))
                self.assertRegex(line, r"^[ -~]*$", path)
                self.assertIsNone(WORDS.search(line), (path, line))

    def test_functions_are_small_and_plain(self):
        for path in FILES:
            for node in nodes(path, ast.FunctionDef):
                self.assertLessEqual(node.end_lineno - node.lineno + 1, 40, (path, node.name))
                self.assertEqual((node.decorator_list, node.args.vararg, node.args.kwarg, node.args.kwonlyargs),
                                 ([], None, None, []), (path, node.name))

    def test_statements_and_expressions(self):
        for path in FILES:
            for node in nodes(path, ast.stmt):
                self.assertIsInstance(node, STATEMENTS, (path, node.lineno))
            for node in nodes(path, NOT_USED):
                self.fail((path, node))
            for node in nodes(path, ast.Constant):
                self.assertIsInstance(node.value, (int, str, bool, type(None)), (path, node.lineno))
            for node in nodes(path, ast.Assign):
                self.assertEqual(len(node.targets), 1, (path, node.lineno))
            for node in nodes(path, (ast.For, ast.While)):
                self.assertEqual(node.orelse, [], (path, node.lineno))
            for node in nodes(path, ast.ListComp):
                self.assertEqual(len(node.generators), 1, (path, node.lineno))

    def test_imports(self):
        for path in FILES:
            for node in nodes(path, ast.ImportFrom):
                self.assertRegex(node.module, r"^clocktree\.[a-z]+$", path)
                self.assertEqual(node.level, 0)
                self.assertTrue(all(one.asname is None and one.name != "*" for one in node.names), path)

    def test_names_are_drawn_from_where_they_are_defined(self):
        draws = {}
        for path in FILES:
            froms = nodes(path, ast.ImportFrom)
            draws[path.stem] = [node.module.split(".")[1] for node in froms]
            for node in froms:
                tree = ast.parse((PACKAGE / (node.module.split(".")[1] + ".py")).read_text())
                tree.body = [one for one in tree.body if not isinstance(one, ast.ImportFrom)]
                self.assertLessEqual({one.name for one in node.names}, set(top_names(tree)), path)
        # No two files draw from one another: take away again and again what draws from nothing that's left.
        while draws:
            free = [name for name in draws if not set(draws[name]) & set(draws)]
            self.assertNotEqual(free, [], draws)
            draws = {name: draws[name] for name in draws if name not in free}

    def test_names(self):
        for path in FILES:
            tree = ast.parse(path.read_text())
            top = top_names(tree)
            self.assertEqual(len(top), len(set(top)), path)
            for node in tree.body:
                if isinstance(node, (ast.FunctionDef, ast.ClassDef)):
                    for name in bound_names(node):
                        self.assertNotIn(name, dir(builtins) + top, (path, name))
                        self.assertRegex(name, r"^[a-z][a-z0-9_]*$", path)
            known = set(top) | set(bound_names(tree)) | OWN_NAMES
            for node in nodes(path, ast.Name):
                self.assertIn(node.id, known, (path, node.lineno))

    def test_methods(self):
        for path in FILES:
            for node in nodes(path, ast.Call):
                if isinstance(node.func, ast.Attribute):
                    self.assertIn(node.func.attr, METHODS, (path, node.lineno))

    def test_values_of_objects(self):
        python_own = set(dir(str) + dir(int) + dir(list) + dir(dict) + dir(set) + dir(bytes) + dir(tuple))
        for path in FILES:
            for node in nodes(path, ast.Attribute):
                if isinstance(node.ctx, ast.Store):
                    self.assertNotIn(node.attr, python_own, (path, node.lineno))


if __name__ == "__main__":
    unittest.main()

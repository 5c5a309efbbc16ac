"""Looks through the package's files for what LANGUAGE.md rules out, as far as a look at the code can tell."""

import ast
import builtins
import pathlib
import re
import unittest

PACKAGE = pathlib.Path(__file__).resolve().parent.parent / "coarserflows"

STATEMENTS = (ast.FunctionDef, ast.ClassDef, ast.Return, ast.Assign, ast.AugAssign, ast.For, ast.While, ast.If, ast.Raise,
              ast.Try, ast.ExceptHandler, ast.ImportFrom, ast.Expr, ast.Pass, ast.Break, ast.Continue)
EXPRESSIONS = (ast.BoolOp, ast.BinOp, ast.UnaryOp, ast.Lambda, ast.IfExp, ast.Dict, ast.Set, ast.ListComp, ast.Compare,
               ast.Call, ast.FormattedValue, ast.JoinedStr, ast.Constant, ast.Attribute, ast.Subscript, ast.Name, ast.List,
               ast.Tuple, ast.Slice)
OWN_NAMES = set("""len range enumerate zip min max sum abs sorted reversed int str bool list tuple dict set frozenset
    isinstance ord repr any all divmod Exception ValueError TypeError KeyError IndexError LookupError ZeroDivisionError
    ArithmeticError OverflowError RuntimeError NotImplementedError AttributeError StopIteration""".split())
OWN_METHODS = set("""append clear copy count endswith extend find get index insert isalnum isalpha isdigit islower isspace
    isupper items join keys ljust lower lstrip partition pop remove replace reverse rfind rjust rpartition rsplit rstrip
    setdefault split splitlines startswith strip update upper values zfill bit_length""".split())
SPECIAL = ("__init__", "__eq__", "__repr__", "__str__", "__len__")
NOWHERE = """type typing typing_extensions enum Enum IntEnum StrEnum Flag IntFlag Generic Protocol ABC ABCMeta namedtuple
    NamedTuple TypedDict TYPE_CHECKING abstractmethod""".split()
NOT_USED = set("register mro elements open input version_info with_traceback add_note format format_map".split())
WALKED = ("items", "keys", "values")
CHANGING = ("append", "clear", "extend", "insert", "pop", "remove", "reverse", "setdefault", "update")


def files():
    return sorted(PACKAGE.rglob("*.py"))


def walked(path, *kinds):
    return [node for node in ast.walk(ast.parse(path.read_text())) if isinstance(node, kinds)]


class Files(unittest.TestCase):
    def test_only_python_files_with_plain_names(self):
        for path in PACKAGE.rglob("*"):
            if "__pycache__" in path.parts:
                continue
            self.assertRegex(path.name, r"^([a-z][a-z0-9_]*|__init__|__main__)\.py$")
            self.assertFalse(path.stem.startswith("test") or path.stem in vars(builtins), path)
        self.assertTrue((PACKAGE / "__init__.py").is_file())

    def test_size_and_signs(self):
        for path in files():
            text = path.read_text(encoding="ascii")
            self.assertRegex(text, r"\A[ -~\n]*\Z", path)
            rows = text.split("\n")
            self.assertLessEqual(len(rows), 400, path)
            self.assertLessEqual(max(map(len, rows)), 120, path)
            for node in walked(path, ast.FunctionDef):
                self.assertLessEqual(node.end_lineno - node.lineno + 1, 40, (path, node.name))

    def test_words_that_stand_nowhere(self):
        for path in files():
            text = path.read_text()
            self.assertFalse(set(re.findall(r"\w+", text)) & set(NOWHERE), path)
            self.assertNotRegex(text, "dataclass|overload|contextmanager", path)


class Imports(unittest.TestCase):
    def test_from_the_very_file_and_in_no_circle(self):
        draws = {}
        for path in files():
            draws[path.stem] = set()
            for node in walked(path, ast.ImportFrom):
                package, stem = node.module.split(".")
                self.assertEqual((package, node.level), ("coarserflows", 0), path)
                draws[path.stem].add(stem)
                source = ast.parse((PACKAGE / (stem + ".py")).read_text()).body
                defined = {row.name for row in source if isinstance(row, (ast.FunctionDef, ast.ClassDef))}
                defined |= {row.targets[0].id for row in source if isinstance(row, ast.Assign)}
                for alias in node.names:
                    self.assertIn(alias.name, defined, path)
                    self.assertIsNone(alias.asname, path)
        self.assertEqual(draws["__init__"], set())
        while draws:
            ends = [stem for stem in draws if not draws[stem] & set(draws)]
            self.assertTrue(ends, "files draw from one another")
            draws = {stem: draws[stem] for stem in draws if stem not in ends}


class Forms(unittest.TestCase):
    def test_statements_and_expressions(self):
        for path in files():
            for node in walked(path, ast.stmt, ast.ExceptHandler):
                self.assertIsInstance(node, STATEMENTS, (path, node.lineno))
            for node in walked(path, ast.expr):
                self.assertIsInstance(node, EXPRESSIONS, (path, node.lineno))
            for node in walked(path, ast.Div, ast.NamedExpr, ast.Starred):
                self.fail((path, ast.dump(node)))

    def test_the_top_of_a_file(self):
        for path in files():
            rows = ast.parse(path.read_text()).body
            self.assertIsInstance(rows[0].value.value, str, path)
            bound = []
            for row in rows[1:]:
                self.assertIsInstance(row, (ast.ImportFrom, ast.FunctionDef, ast.ClassDef, ast.Assign), path)
                if isinstance(row, ast.Assign):
                    ast.literal_eval(row.value)
                    bound.append(row.targets[0].id)
                elif isinstance(row, ast.ImportFrom):
                    bound.extend(alias.name for alias in row.names)
                else:
                    bound.append(row.name)
            self.assertEqual(len(bound), len(set(bound)), path)

    def test_statements_in_detail(self):
        for path in files():
            docstring = ast.parse(path.read_text()).body[0].lineno
            for node in walked(path, ast.Expr):
                self.assertTrue(isinstance(node.value, ast.Call) or node.lineno == docstring, (path, node.lineno))
            for node in walked(path, ast.Assign):
                self.assertEqual(len(node.targets), 1, (path, node.lineno))
            for node in walked(path, ast.For, ast.While):
                self.assertEqual(node.orelse, [], (path, node.lineno))
            for node in walked(path, ast.Try):
                self.assertEqual(node.finalbody, [], (path, node.lineno))
            for node in walked(path, ast.ListComp):
                self.assertEqual(len(node.generators), 1, (path, node.lineno))
                self.assertLessEqual(len(node.generators[0].ifs), 1, (path, node.lineno))
            for node in walked(path, ast.Constant):
                self.assertIsInstance(node.value, (int, str, bool, type(None)), (path, node.lineno))
            for node in walked(path, ast.Compare):
                for operator, side in zip(node.ops, node.comparators):
                    if isinstance(operator, (ast.Is, ast.IsNot)):
                        self.assertIn(side.value, (None, True, False), (path, node.lineno))

    def test_functions_and_classes(self):
        for path in files():
            for node in walked(path, ast.FunctionDef):
                plain = not (node.args.vararg or node.args.kwarg or node.args.kwonlyargs or node.args.posonlyargs)
                self.assertTrue(plain and not node.decorator_list and node.returns is None, (path, node.name))
            for node in walked(path, ast.ClassDef):
                self.assertTrue(len(node.bases) <= 1 and not node.decorator_list and not node.keywords, (path, node.name))
                for row in node.body:
                    self.assertIsInstance(row, (ast.FunctionDef, ast.Pass), (path, node.name))

    def test_walked_at_once(self):
        for path in files():
            for node in walked(path, ast.For):
                changed = [inner.func.value for inner in ast.walk(node) if isinstance(inner, ast.Call)
                           and isinstance(inner.func, ast.Attribute) and inner.func.attr in CHANGING]
                changed += [target.value for inner in ast.walk(node) if isinstance(inner, ast.Assign)
                            for target in inner.targets if isinstance(target, ast.Subscript)]
                self.assertNotIn(ast.dump(node.iter), [ast.dump(value) for value in changed], (path, node.lineno))
            for node in walked(path, ast.Assign, ast.Return):
                value = node.value
                called = value.func if isinstance(value, ast.Call) else None
                self.assertNotIn(getattr(called, "attr", getattr(called, "id", None)),
                                 WALKED + ("zip", "enumerate", "reversed", "range", "set"), (path, node.lineno))


class Names(unittest.TestCase):
    def test_names(self):
        for path in files():
            for node in walked(path, ast.Name):
                if node.id in vars(builtins):
                    self.assertIn(node.id, OWN_NAMES, (path, node.lineno))
                    self.assertIsInstance(node.ctx, ast.Load, (path, node.lineno))
                self.check_word(node.id, path)
            for node in walked(path, ast.arg):
                self.assertNotIn(node.arg, vars(builtins), (path, node.lineno))
                self.check_word(node.arg, path)
            for node in walked(path, ast.FunctionDef, ast.ClassDef):
                self.assertNotIn(node.name, vars(builtins), (path, node.name))
                if node.name not in SPECIAL:
                    self.check_word(node.name, path)

    def test_no_local_is_called_like_an_import_or_a_class(self):
        for path in files():
            taken = {alias.name for node in walked(path, ast.ImportFrom) for alias in node.names}
            taken |= {node.name for node in walked(path, ast.ClassDef)}
            for function in walked(path, ast.FunctionDef):
                local = {node.arg for node in ast.walk(function) if isinstance(node, ast.arg)}
                local |= {node.id for node in ast.walk(function)
                          if isinstance(node, ast.Name) and isinstance(node.ctx, ast.Store)}
                self.assertFalse(local & taken, (path, function.name))

    def check_word(self, word, path):
        self.assertRegex(word, r"^[A-Za-z][A-Za-z0-9_]*$", path)
        self.assertNotIn(word, NOT_USED, path)

    def test_methods_and_values(self):
        methods, values, used = set(), set(), set()
        for path in files():
            for node in walked(path, ast.ClassDef):
                names = [row.name for row in node.body if isinstance(row, ast.FunctionDef)]
                self.assertEqual(len(names), len(set(names)), (path, node.name))
                methods |= set(names) - set(SPECIAL)
            for node in walked(path, ast.Attribute):
                (values if isinstance(node.ctx, ast.Store) else used).add(node.attr)
        self.assertFalse(methods & values)
        self.assertFalse((methods | values | used) & NOT_USED)
        self.assertLessEqual(used, methods | values | OWN_METHODS)
        for kind in (str, int, list, dict, set, bytes):
            self.assertFalse((methods | values) & set(dir(kind)) - set(SPECIAL), kind)


if __name__ == "__main__":
    unittest.main()

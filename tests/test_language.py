"""Some rules of the language subset that can be seen in a file: L2, L7, L8, L10, L12 and others."""

import ast
import builtins
import pathlib
import re
import unittest

FOLDER = pathlib.Path(__file__).parent.parent / "ringswings"
FILES = sorted(path for path in FOLDER.rglob("*") if "__pycache__" not in path.parts)
BUILTINS = set("""len range enumerate zip min max sum abs sorted reversed int str bool list tuple dict set isinstance
    ord repr any all divmod super ValueError KeyError IndexError LookupError""".split())
METHODS = set("""append clear copy count endswith extend find get index insert isalnum isalpha isdigit islower isspace
    isupper items join keys ljust lower lstrip partition pop remove replace reverse rfind rjust rpartition rsplit rstrip
    setdefault split splitlines startswith strip update upper values zfill bit_length isascii""".split())
BARRED = (r"\b(type|typing|typing_extensions|enum|Enum|IntEnum|StrEnum|Flag|IntFlag|Generic|Protocol|ABC|ABCMeta"
          r"|namedtuple|NamedTuple|TypedDict|TYPE_CHECKING|abstractmethod|register|mro|elements|open|input"
          r"|version_info)\b|dataclass|overload|contextmanager")
AT_ONCE = ("zip", "enumerate", "reversed", "range", "items", "keys", "values")
TAKERS = ("list", "tuple", "dict", "sorted", "sum", "any", "all", "enumerate", "zip")
DOUBLE = ("__init__", "__eq__", "__str__", "__len__")


def trees():
    return [(path.name, ast.parse(path.read_text("utf-8"))) for path in FILES]


def nodes(*kinds):
    return [(name, node) for name, tree in trees() for node in ast.walk(tree) if isinstance(node, kinds)]


class LanguageTest(unittest.TestCase):
    def test_files_and_characters(self):
        for path in FILES:
            self.assertRegex(path.name, r"^[a-z_]+\.py$")
            text = path.read_bytes()
            self.assertTrue(all(byte == 10 or 32 <= byte <= 126 for byte in text), path)
            lines = text.decode("ascii").splitlines()
            self.assertLessEqual(len(lines), 400)
            self.assertLessEqual(max(map(len, lines), default=0), 120)
            self.assertIsNone(re.search(BARRED, text.decode("ascii")), path)

    def test_imports(self):
        self.assertEqual(nodes(ast.Import), [])
        imports = {}
        for name, node in nodes(ast.ImportFrom):
            self.assertRegex(node.module, r"^ringswings\.[a-z]+$")
            imports.setdefault(name, set()).add(node.module.partition(".")[2] + ".py")
            tree = dict(trees())[node.module.partition(".")[2] + ".py"]
            defined = {part.name for part in tree.body if isinstance(part, (ast.FunctionDef, ast.ClassDef))}
            defined |= {part.targets[0].id for part in tree.body if isinstance(part, ast.Assign)}
            self.assertTrue({one.name for one in node.names} <= defined, (name, node.module))
        while imports:
            free = [name for name in imports if not imports[name] & set(imports)]
            self.assertTrue(free, "files that import from each other")
            imports = {name: imports[name] for name in imports if name not in free}

    def test_functions(self):
        for name, node in nodes(ast.FunctionDef):
            self.assertLessEqual(node.end_lineno - node.lineno + 1, 40, (name, node.name))
            self.assertTrue(node.name in DOUBLE or not node.name.startswith("_"), node.name)
            self.assertEqual(node.decorator_list, [])
            if node.name in DOUBLE[1:]:
                inside = [part for part in ast.walk(node) if isinstance(part, (ast.Assign, ast.AugAssign, ast.Delete))]
                self.assertEqual(inside, [], (name, node.name))

    def test_statements_and_expressions(self):
        self.assertEqual(nodes(ast.Global, ast.AsyncFunctionDef, ast.Await, ast.GeneratorExp, ast.Div), [])
        for name, node in nodes(ast.BinOp):
            self.assertTrue(not isinstance(node.op, ast.Pow) or isinstance(node.right, ast.Constant), name)
        for name, node in nodes(ast.Constant):
            self.assertNotIsInstance(node.value, (float, complex))
            self.assertFalse(isinstance(node.value, str) and "%" in node.value, (name, node.lineno))
        for name, node in nodes(ast.Compare):
            for sign, right in zip(node.ops, node.comparators):
                if isinstance(sign, (ast.Is, ast.IsNot)):
                    self.assertIn(getattr(right, "value", 0), (None, True, False), (name, node.lineno))

    def test_names(self):
        for name, tree in trees():
            imported = {one.name for node in ast.walk(tree) if isinstance(node, ast.ImportFrom) for one in node.names}
            classes = {node.name for node in ast.walk(tree) if isinstance(node, ast.ClassDef)}
            for node in ast.walk(tree):
                bound = node.arg if isinstance(node, ast.arg) else None
                if isinstance(node, ast.Name) and isinstance(node.ctx, ast.Store):
                    bound = node.id
                if isinstance(node, ast.Name) and isinstance(node.ctx, ast.Load) and node.id in dir(builtins):
                    self.assertIn(node.id, BUILTINS, (name, node.lineno))
                if bound:
                    self.assertFalse(bound.startswith("_") or bound in dir(builtins), (name, bound))
                    self.assertNotIn(bound, imported | classes, name)

    def test_methods_and_attributes(self):
        classes = [node for name, node in nodes(ast.ClassDef)]
        methods = {part.name for node in classes for part in node.body if isinstance(part, ast.FunctionDef)}
        stored = {node.attr for name, node in nodes(ast.Attribute) if isinstance(node.ctx, ast.Store)}
        self.assertEqual(methods & stored, set())
        called = {node.func.attr for name, node in nodes(ast.Call) if isinstance(node.func, ast.Attribute)}
        self.assertTrue(called <= METHODS | methods, called - METHODS - methods)
        read = {node.attr for name, node in nodes(ast.Attribute) if isinstance(node.ctx, ast.Load)}
        self.assertTrue(read <= called | stored, read - called - stored)

    def called_name(self, node):
        """The name of the function or method that a node calls, or None."""
        if not isinstance(node, ast.Call):
            return None
        return node.func.attr if isinstance(node.func, ast.Attribute) else node.func.id

    def test_iterated_at_once(self):
        allowed = []
        for name, node in nodes(ast.For, ast.comprehension, ast.Call):
            if not isinstance(node, ast.Call):
                allowed.append(ast.dump(node.iter, include_attributes=True))
            elif self.called_name(node) in TAKERS and node.args:
                allowed.extend([ast.dump(one, include_attributes=True) for one in node.args])
        for name, node in nodes(ast.Call):
            if self.called_name(node) in AT_ONCE:
                self.assertIn(ast.dump(node, include_attributes=True), allowed, (name, node.lineno))

    def test_sets(self):
        self.assertEqual(nodes(ast.Set, ast.SetComp), [])
        inside = [ast.dump(one, include_attributes=True) for name, node in nodes(ast.Call)
                  if self.called_name(node) in ("sorted", "len") and not node.keywords for one in node.args]
        for name, node in nodes(ast.Call):
            if self.called_name(node) == "set":
                self.assertIn(ast.dump(node, include_attributes=True), inside, (name, node.lineno))

    def test_own_errors_are_caught_by_name(self):
        own = {node.name for name, node in nodes(ast.ClassDef) if name == "errors.py"}
        for name, node in nodes(ast.ExceptHandler):
            caught = node.type.elts if isinstance(node.type, ast.Tuple) else [node.type]
            self.assertTrue({one.id for one in caught} <= own, (name, node.lineno))

    def test_names_are_bound_once_at_module_level(self):
        for name, tree in trees():
            bound = []
            for part in tree.body:
                if isinstance(part, ast.Assign):
                    bound.extend([one.id for one in part.targets])
                elif isinstance(part, ast.ImportFrom):
                    bound.extend([one.asname or one.name for one in part.names])
                elif isinstance(part, (ast.FunctionDef, ast.ClassDef)):
                    bound.append(part.name)
                else:
                    self.assertIsInstance(part, ast.Expr, (name, part.lineno))
                    self.assertIsInstance(part.value, ast.Constant, (name, part.lineno))
            self.assertEqual(len(bound), len(set(bound)), name)

    def test_errors_are_created_where_they_are_raised(self):
        for name, node in nodes(ast.Raise):
            self.assertIsInstance(node.exc, ast.Call, (name, node.lineno))
            self.assertIsInstance(node.exc.func, ast.Name, (name, node.lineno))


if __name__ == "__main__":
    unittest.main()

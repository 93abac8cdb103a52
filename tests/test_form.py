"""The form of the package's files: the rules of the language that a walk over the code can hold them to."""

import ast
import builtins
import pathlib
import re
import unittest

FOLDER = pathlib.Path(__file__).resolve().parent.parent / "patternwords"
OWN_NAMES = set("""len range enumerate zip min max sum abs sorted reversed int str bool list tuple dict set frozenset
    isinstance ord repr any all divmod""".split())
METHODS = set("""append clear copy count endswith extend find get index insert isalnum isalpha isdigit islower isspace
    isupper items join keys ljust lower lstrip partition pop remove replace reverse rfind rjust rpartition rsplit rstrip
    setdefault split splitlines startswith strip update upper values zfill bit_length""".split())
BANNED_WORDS = set("""type typing typing_extensions enum Enum IntEnum StrEnum Flag IntFlag Generic Protocol ABC ABCMeta
    namedtuple NamedTuple TypedDict TYPE_CHECKING abstractmethod""".split())
BANNED_PARTS = ("dataclass", "overload", "contextmanager")
NODES = (ast.Module, ast.FunctionDef, ast.arguments, ast.arg, ast.ClassDef, ast.Assign, ast.AugAssign, ast.If, ast.While,
         ast.For, ast.Return, ast.Break, ast.Continue, ast.Pass, ast.Expr, ast.ImportFrom, ast.alias, ast.Constant,
         ast.List, ast.Tuple, ast.BinOp, ast.UnaryOp, ast.BoolOp, ast.Compare, ast.IfExp, ast.Call, ast.Attribute,
         ast.Subscript, ast.Slice, ast.ListComp, ast.comprehension, ast.Name, ast.operator, ast.unaryop, ast.boolop,
         ast.cmpop, ast.expr_context)
PYTHONS_OWN = {name for kind in (str, int, list, dict, set, bytes) for name in dir(kind)}


def files():
    return sorted(FOLDER.glob("*.py"))


def trees():
    return [(path, ast.parse(path.read_text())) for path in files()]


def defined_methods():
    return {node.name for path, tree in trees() for holder in ast.walk(tree) if isinstance(holder, ast.ClassDef)
            for node in holder.body if isinstance(node, ast.FunctionDef)}


def stored_values():
    return {node.attr for path, tree in trees() for node in ast.walk(tree)
            if isinstance(node, ast.Attribute) and isinstance(node.ctx, ast.Store)}


class Files(unittest.TestCase):
    def test_only_python_files_with_plain_names(self):
        names = [path.name for path in FOLDER.iterdir() if path.name != "__pycache__"]
        for name in names:
            self.assertRegex(name, r"^[a-z0-9_]+\.py$")
            self.assertFalse(hasattr(builtins, name[:-3]) and name != "__init__.py", name)
        self.assertIn("__init__.py", names)
        self.assertIn("desk.py", names)

    def test_sizes_and_signs(self):
        for path in files():
            text = path.read_text()
            self.assertRegex(text, r"\A[ -~\n]*\Z", path)
            rows = text.split("\n")
            self.assertLessEqual(len(rows), 400, path)
            self.assertLessEqual(max(len(row) for row in rows), 120, path)
            for node in ast.walk(ast.parse(text)):
                if isinstance(node, ast.FunctionDef):
                    self.assertLessEqual(node.end_lineno - node.lineno + 1, 40, node.name)

    def test_words_that_stand_nowhere(self):
        for path in files():
            text = path.read_text()
            self.assertEqual(BANNED_WORDS & set(re.findall(r"\w+", text)), set(), path)
            self.assertFalse(any(part in text for part in BANNED_PARTS), path)


class Code(unittest.TestCase):
    def test_only_known_forms(self):
        for path, tree in trees():
            for node in ast.walk(tree):
                where = f"{path.name}:{getattr(node, 'lineno', 0)}"
                self.assertIsInstance(node, NODES, where)
                self.assertNotIsInstance(node, (ast.Div, ast.Pow, ast.Is, ast.IsNot), where)
                if isinstance(node, (ast.For, ast.While)):
                    self.assertEqual(node.orelse, [], where)
                if isinstance(node, ast.Assign):
                    self.assertEqual(len(node.targets), 1, where)
                    self.assertNotIsInstance(node.targets[0], (ast.Tuple, ast.List), where)
                if isinstance(node, ast.Constant):
                    self.assertIn(type(node.value), (int, str, bool, type(None)), where)
                    self.assertFalse(isinstance(node.value, str) and "%" in node.value, where)
                if isinstance(node, ast.Call):
                    self.assertEqual(node.keywords, [], where)

    def test_names(self):
        for path, tree in trees():
            for node in ast.walk(tree):
                if isinstance(node, ast.Name):
                    self.assertRegex(node.id, r"^[A-Za-z]\w*$", path)
                    if hasattr(builtins, node.id):
                        self.assertIn(node.id, OWN_NAMES, path)
                        self.assertIsInstance(node.ctx, ast.Load, path)
                if isinstance(node, ast.arg):
                    self.assertFalse(hasattr(builtins, node.arg), path)
                    self.assertIsNone(node.annotation, path)

    def test_names_are_bound_once_at_the_top(self):
        for path, tree in trees():
            bound = []
            for node in tree.body:
                if isinstance(node, ast.ImportFrom):
                    self.assertTrue(node.level == 0 and node.module.startswith("patternwords."), path)
                    bound.extend(alias.name for alias in node.names)
                elif isinstance(node, (ast.FunctionDef, ast.ClassDef)):
                    bound.append(node.name)
                elif isinstance(node, ast.Assign):
                    bound.append(node.targets[0].id)
            self.assertEqual(len(bound), len(set(bound)), path)
            inner = {node.arg for node in ast.walk(tree) if isinstance(node, ast.arg)}
            inner |= {node.id for top in tree.body if isinstance(top, (ast.FunctionDef, ast.ClassDef))
                      for node in ast.walk(top) if isinstance(node, ast.Name) and isinstance(node.ctx, ast.Store)}
            self.assertEqual(inner & set(bound), set(), path)

    def test_methods_and_values(self):
        own_methods, values = defined_methods(), stored_values()
        self.assertEqual(own_methods & values, set())
        self.assertEqual((own_methods - {"__init__"}) & PYTHONS_OWN, set())
        self.assertEqual(values & PYTHONS_OWN, set())
        for path, tree in trees():
            for node in ast.walk(tree):
                if isinstance(node, ast.Attribute):
                    self.assertIn(node.attr, own_methods | values | METHODS, path)

    def test_no_two_files_draw_from_one_another(self):
        drawn = {path.stem: {node.module.split(".")[1] for node in tree.body if isinstance(node, ast.ImportFrom)}
                 for path, tree in trees()}
        while drawn:
            free = [name for name in drawn if not drawn[name] & set(drawn)]
            self.assertNotEqual(free, [], drawn)
            for name in free:
                drawn.pop(name)


if __name__ == "__main__":
    unittest.main()

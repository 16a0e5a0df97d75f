"""The part of Python that the package keeps to: what of its rules can be seen in the text and the syntax tree."""

import ast
import builtins
import pathlib
import re
import unittest

FOLDER = pathlib.Path(__file__).resolve().parent.parent / "patternmeets"
FILES = sorted(path for path in FOLDER.iterdir() if path.name != "__pycache__")

STATEMENTS = (ast.Assign, ast.AugAssign, ast.If, ast.While, ast.For, ast.Return, ast.Break, ast.Continue, ast.Pass,
              ast.Raise, ast.Try, ast.FunctionDef)
OUT = (ast.SetComp, ast.DictComp, ast.GeneratorExp, ast.NamedExpr, ast.Starred, ast.Div, ast.MatMult, ast.Await,
       ast.Yield, ast.YieldFrom, ast.Set)
OWN_NAMES = set("""len range enumerate zip min max sum abs sorted reversed int str bool list tuple dict set frozenset
    isinstance ord repr any all divmod ValueError KeyError ZeroDivisionError StopIteration IndexError
    LookupError""".split())
METHODS = set("""append clear copy count endswith extend find get index insert isalnum isalpha isdigit islower isspace
    isupper items join keys ljust lower lstrip partition pop remove replace reverse rfind rjust rpartition rsplit
    rstrip setdefault split splitlines startswith strip update upper values zfill bit_length""".split())
WORDS = set("""type typing typing_extensions enum Enum IntEnum StrEnum Flag IntFlag Generic Protocol ABC ABCMeta
    namedtuple NamedTuple TypedDict TYPE_CHECKING abstractmethod""".split())


class Language(unittest.TestCase):
    def trees(self):
        return [(path, ast.parse(path.read_text(encoding="utf-8"))) for path in FILES]

    def nodes(self):
        return [(path, node) for path, tree in self.trees() for node in ast.walk(tree)]

    def test_files(self):
        for path in FILES:
            self.assertRegex(path.name, r"^(__init__|__main__|[a-z][a-z0-9_]*)\.py$")
            self.assertNotIn(path.stem, dir(builtins))
        self.assertIn("__init__.py", [path.name for path in FILES])

    def test_signs_and_sizes(self):
        for path in FILES:
            text = path.read_text(encoding="utf-8")
            self.assertRegex(text, r"\A[ -~\n]*\Z", path)
            self.assertLessEqual(len(text.splitlines()), 400, path)
            self.assertLessEqual(max(len(line) for line in text.splitlines()), 120, path)
        for path, node in self.nodes():
            if isinstance(node, ast.FunctionDef):
                self.assertLessEqual(node.end_lineno - node.lineno + 1, 40, (path, node.name))

    def test_words(self):
        for path in FILES:
            text = path.read_text(encoding="utf-8")
            self.assertEqual(WORDS & set(re.findall(r"\w+", text)), set(), path)
            self.assertNotRegex(text, "dataclass|overload|contextmanager", path)

    def test_imports(self):
        defined = {}
        for path, tree in self.trees():
            names = [node.name for node in tree.body if isinstance(node, (ast.FunctionDef, ast.ClassDef))]
            names += [node.targets[0].id for node in tree.body if isinstance(node, ast.Assign)]
            self.assertEqual(len(names), len(set(names)), path)
            defined["patternmeets." + path.stem] = names
        for path, node in self.nodes():
            self.assertNotIsInstance(node, ast.Import, path)
            if isinstance(node, ast.ImportFrom):
                self.assertEqual(node.level, 0)
                for alias in node.names:
                    self.assertIn(alias.name, defined[node.module], path)

    def test_no_two_files_draw_from_one_another(self):
        drawn = {}
        for path, tree in self.trees():
            drawn["patternmeets." + path.stem] = {node.module for node in tree.body if isinstance(node, ast.ImportFrom)}
        while drawn:
            ends = [name for name in drawn if not drawn[name] & set(drawn)]
            self.assertNotEqual(ends, [], drawn)
            for name in ends:
                drawn.pop(name)

    def test_top_of_a_module(self):
        for path, tree in self.trees():
            self.assertIsNotNone(ast.get_docstring(tree), path)
            for node in tree.body[1:]:
                self.assertIsInstance(node, (ast.ImportFrom, ast.FunctionDef, ast.ClassDef, ast.Assign), path)
                if isinstance(node, ast.Assign):
                    ast.literal_eval(node.value)

    def test_statements_and_expressions(self):
        for path, node in self.nodes():
            where = (path, getattr(node, "lineno", 0))
            self.assertNotIsInstance(node, OUT, where)
            if isinstance(node, ast.FunctionDef):
                self.assertEqual(node.decorator_list, [], where)
                for step in ast.walk(node):
                    if isinstance(step, ast.stmt) and not isinstance(step, ast.Expr):
                        self.assertIsInstance(step, STATEMENTS, where)
                    if isinstance(step, ast.Expr):
                        self.assertIsInstance(step.value, ast.Call, where)
            if isinstance(node, ast.ClassDef):
                self.assertEqual(node.decorator_list, [], where)
                self.assertTrue(all(isinstance(step, ast.FunctionDef) for step in node.body), where)
            if isinstance(node, ast.Assign):
                self.assertEqual(len(node.targets), 1, where)
                self.assertNotIsInstance(node.targets[0], (ast.Tuple, ast.List), where)
            if isinstance(node, (ast.For, ast.While)):
                self.assertEqual(node.orelse, [], where)
            if isinstance(node, ast.Constant):
                self.assertIn(type(node.value), (int, str, bool, type(None)), where)

    def test_names(self):
        for path, tree in self.trees():
            taken = [alias.name for node in tree.body if isinstance(node, ast.ImportFrom) for alias in node.names]
            taken += [node.name for node in tree.body if isinstance(node, ast.ClassDef)]
            for node in ast.walk(tree):
                if isinstance(node, ast.Name) and isinstance(node.ctx, ast.Load) and node.id in dir(builtins):
                    self.assertIn(node.id, OWN_NAMES, path)
                bound = node.arg if isinstance(node, ast.arg) else None
                if isinstance(node, ast.Name) and isinstance(node.ctx, ast.Store):
                    bound = node.id
                if bound is not None:
                    self.assertNotIn(bound, dir(builtins) + taken, path)
                    self.assertRegex(bound, r"^[A-Za-z][A-Za-z0-9_]*$")
                if isinstance(node, ast.Attribute) and node.attr in dir("") + dir([]) + dir({}) + dir(0):
                    self.assertIn(node.attr, METHODS, path)

    def test_no_name_is_a_method_and_a_value(self):
        classes = [node for _, node in self.nodes() if isinstance(node, ast.ClassDef)]
        methods = {step.name for node in classes for step in node.body}
        stored = {node.attr for _, node in self.nodes()
                  if isinstance(node, ast.Attribute) and isinstance(node.ctx, ast.Store)}
        self.assertEqual(methods & stored, set())


if __name__ == "__main__":
    unittest.main()

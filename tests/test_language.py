"""The rules of ../shared/LANGUAGE.md that can be seen line by line, for the files of the package."""

import ast
import builtins
import io
import re
import tokenize
import unittest
from pathlib import Path

PACKAGE = Path(__file__).resolve().parent.parent / "mingle"
LIBRARY = {
    "heapq": {"heappush", "heappop", "heapify", "heapreplace", "heappushpop"},
    "math": {"gcd", "lcm", "isqrt", "comb", "perm", "factorial"},
    "itertools": {"product", "combinations", "permutations", "chain", "accumulate", "pairwise", "islice",
                  "zip_longest"},
    "collections": {"defaultdict"},
}
BUILTINS = set(
    "len range enumerate zip min max sum abs sorted reversed int str bool bytes list tuple dict set frozenset isinstance"
    " ord repr any all divmod pow getattr hasattr setattr iter next map super Exception ValueError TypeError KeyError"
    " IndexError LookupError ZeroDivisionError ArithmeticError OverflowError RuntimeError NotImplementedError"
    " AttributeError StopIteration NotImplemented property staticmethod classmethod object".split()
)
METHODS = set(
    "append clear copy count endswith extend find get index insert isalnum isalpha isdigit islower isspace isupper items"
    " join keys ljust lower lstrip partition pop remove replace reverse rfind rjust rpartition rsplit rstrip setdefault"
    " split splitlines startswith strip update upper values zfill bit_length title capitalize swapcase casefold center"
    " expandtabs removeprefix removesuffix rindex isascii isdecimal isnumeric istitle isidentifier isprintable translate"
    " sort add discard format".split()
)
STATEMENTS = (
    ast.Assign, ast.AugAssign, ast.AnnAssign, ast.If, ast.While, ast.For, ast.Return, ast.Break, ast.Continue, ast.Pass,
    ast.Raise, ast.Assert, ast.Delete, ast.Nonlocal, ast.Match, ast.With, ast.Try, ast.Expr, ast.FunctionDef,
    ast.ClassDef, ast.ImportFrom,
)
BARRED_NAMES = set("register mro elements open input law version_info with_traceback add_note".split())
BARRED_WORDS = set(
    "type typing typing_extensions enum Enum IntEnum StrEnum Flag IntFlag Generic Protocol ABC ABCMeta namedtuple"
    " NamedTuple TypedDict TYPE_CHECKING abstractmethod".split()
)
DEFAULTS = (ast.Constant, ast.Tuple, ast.UnaryOp, ast.BinOp, ast.Name)


def bound_names(tree):
    """The names that parameters, assignments, functions, classes and imports bind."""
    for node in ast.walk(tree):
        if isinstance(node, ast.Name) and not isinstance(node.ctx, ast.Load):
            yield node.id
        elif isinstance(node, ast.arg):
            yield node.arg
        elif isinstance(node, (ast.FunctionDef, ast.ClassDef)):
            yield node.name
        elif isinstance(node, ast.alias):
            yield node.name


def docstrings(tree):
    for node in ast.walk(tree):
        if isinstance(node, (ast.Module, ast.ClassDef, ast.FunctionDef)) and ast.get_docstring(node) is not None:
            yield node.body[0].value


class LanguageTest(unittest.TestCase):
    @classmethod
    def setUpClass(cls):
        cls.texts = {path: path.read_text(encoding="utf-8") for path in sorted(PACKAGE.rglob("*.py"))}
        cls.trees = {path: ast.parse(text) for path, text in cls.texts.items()}

    def nodes(self, *kinds):
        for path, tree in self.trees.items():
            for node in ast.walk(tree):
                if isinstance(node, kinds):
                    yield f"{path.name}:{getattr(node, 'lineno', 0)}", node

    def test_files(self):
        others = [path for path in PACKAGE.rglob("*") if path.is_file() and path.suffix not in (".py", ".pyc")]
        self.assertEqual(others, [])
        self.assertIn(PACKAGE / "__init__.py", self.texts)
        for path in self.texts:
            self.assertRegex(path.name, "^[a-z0-9_]+[.]py$")

    def test_sizes(self):
        for path, text in self.texts.items():
            lines = text.split("\n")
            self.assertLessEqual(len(lines) - 1, 399, path)
            for number, line in enumerate(lines, start=1):
                self.assertLessEqual(len(line), 120, f"{path.name}:{number}")
        for where, node in self.nodes(ast.FunctionDef):
            self.assertLessEqual(node.end_lineno - node.lineno + 1, 40, where)

    def test_characters(self):
        for path, text in self.texts.items():
            self.assertEqual(re.findall("[^ -~\n]", text), [], path)
            self.assertNotRegex(text, "_wall|_WallAttr")

    def test_imports(self):
        for where, node in self.nodes(ast.Import, ast.ImportFrom):
            self.assertIsInstance(node, ast.ImportFrom, where)
            self.assertEqual(node.level, 0, where)
            names = {alias.name for alias in node.names}
            if node.module in LIBRARY:
                self.assertLessEqual(names, LIBRARY[node.module], where)
                continue
            target = PACKAGE.parent / (node.module.replace(".", "/") + ".py")
            self.assertIn(target, self.trees, where)
            bound = set()
            for row in self.trees[target].body:
                if not isinstance(row, ast.ImportFrom):
                    bound.update(bound_names(row) if isinstance(row, ast.Assign) else [getattr(row, "name", "")])
            self.assertLessEqual(names, bound, where)

    def test_module_level(self):
        for path, tree in self.trees.items():
            names = []
            for row in tree.body:
                docstring = isinstance(row, ast.Expr) and isinstance(row.value, ast.Constant)
                kinds = (ast.ImportFrom, ast.FunctionDef, ast.ClassDef, ast.Assign)
                self.assertTrue(docstring or isinstance(row, kinds), f"{path.name}:{row.lineno}")
                if isinstance(row, ast.ImportFrom):
                    names += [alias.name for alias in row.names]
                elif isinstance(row, ast.Assign):
                    names += list(bound_names(row))
                elif not docstring:
                    names.append(row.name)
            self.assertEqual(len(names), len(set(names)), path)

    def test_statements_and_expressions(self):
        for where, node in self.nodes(ast.stmt):
            self.assertIsInstance(node, STATEMENTS, where)
        for where, node in self.nodes(ast.Div, ast.Await, ast.TryStar, ast.Global):
            self.fail(where)
        for where, node in self.nodes(ast.Constant):
            self.assertNotIsInstance(node.value, (float, complex), where)
        for where, node in self.nodes(ast.FunctionDef):
            defaults = node.args.defaults + [value for value in node.args.kw_defaults if value is not None]
            for value in defaults:
                self.assertIsInstance(value, DEFAULTS, where)

    def test_names(self):
        for path, tree in self.trees.items():
            classes = [node for node in ast.walk(tree) if isinstance(node, ast.ClassDef)]
            methods = {row.name for node in classes for row in node.body if isinstance(row, ast.FunctionDef)}
            for name in bound_names(tree):
                self.assertNotIn(name, BARRED_NAMES, path)
                self.assertRegex(name, "^(_|_?[A-Za-z][A-Za-z0-9_]*|__[a-z]+__)$")
                self.assertTrue(name in methods or name not in dir(builtins), f"{path.name}: {name}")

    def test_imports_and_classes_are_not_named_again(self):
        for path, tree in self.trees.items():
            fixed = {alias.name for row in tree.body if isinstance(row, ast.ImportFrom) for alias in row.names}
            fixed |= {row.name for row in tree.body if isinstance(row, ast.ClassDef)}
            for node in ast.walk(tree):
                if isinstance(node, ast.arg):
                    self.assertNotIn(node.arg, fixed, path)
                elif isinstance(node, ast.Name) and not isinstance(node.ctx, ast.Load):
                    self.assertNotIn(node.id, fixed, path)

    def test_builtins_and_methods(self):
        own = {node.name for _, node in self.nodes(ast.FunctionDef)}
        for path, tree in self.trees.items():
            known = set(bound_names(tree)) | BUILTINS
            for node in ast.walk(tree):
                if isinstance(node, ast.Name) and isinstance(node.ctx, ast.Load):
                    self.assertIn(node.id, known, f"{path.name}:{node.lineno}")
                if isinstance(node, ast.Call) and isinstance(node.func, ast.Attribute):
                    self.assertIn(node.func.attr, METHODS | own, f"{path.name}:{node.lineno}")

    def test_strings(self):
        for path, tree in self.trees.items():
            free = [id(value) for value in docstrings(tree)]
            for node in ast.walk(tree):
                if isinstance(node, ast.Constant) and isinstance(node.value, str):
                    self.assertNotIn("%", node.value, path)
                    if id(node) not in free:
                        words = set(re.findall("[A-Za-z_]+", node.value)) - {"type"}
                        self.assertEqual(words & BARRED_WORDS, set(), path)

    def test_words_and_escapes(self):
        for path, text in self.texts.items():
            for token in tokenize.generate_tokens(io.StringIO(text).readline):
                where = f"{path.name}:{token.start[0]}"
                if token.type == tokenize.NAME:
                    self.assertNotIn(token.string, BARRED_WORDS, where)
                if token.type == tokenize.STRING:
                    for escape in re.findall(r"\\(.)", token.string):
                        self.assertIn(escape, "nt\\'\"", where)

    def test_sets_are_not_kept(self):
        for where, node in self.nodes(ast.For):
            self.assertNotIsInstance(node.iter, (ast.Set, ast.SetComp), where)
        for where, node in self.nodes(ast.Return):
            self.assertNotIsInstance(node.value, (ast.Set, ast.SetComp), where)

    def test_no_import_goes_round(self):
        leads = {path: set() for path in self.trees}
        for path, tree in self.trees.items():
            for node in ast.walk(tree):
                if isinstance(node, ast.ImportFrom) and node.module not in LIBRARY:
                    leads[path].add(PACKAGE.parent / (node.module.replace(".", "/") + ".py"))
        while leads:
            free = [path for path, behind in leads.items() if not behind & set(leads)]
            self.assertTrue(free, "files import from each other")
            for path in free:
                del leads[path]


if __name__ == "__main__":
    unittest.main()

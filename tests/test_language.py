"""The rules of the language for the package that a look at each file can tell."""

import ast
import builtins
import pathlib
import re
import unittest

PACKAGE = pathlib.Path(__file__).resolve().parent.parent / "cardlanes"
FILES = sorted(path for path in PACKAGE.rglob("*") if path.is_file() and "__pycache__" not in path.parts)

BARRED_WORDS = re.compile(
    r"\b(type|typing|typing_extensions|enum|Enum|IntEnum|StrEnum|Flag|IntFlag|Generic|Protocol|ABC|ABCMeta|namedtuple"
    r"|NamedTuple|TypedDict|TYPE_CHECKING|abstractmethod)\b|dataclass|overload|contextmanager"
)
BUILTINS = set(
    "len range enumerate zip min max sum abs sorted reversed int str bool bytes list tuple dict set frozenset isinstance "
    "ord repr any all divmod super property staticmethod classmethod Exception ValueError TypeError KeyError IndexError "
    "LookupError ZeroDivisionError ArithmeticError OverflowError RuntimeError NotImplementedError AttributeError "
    "StopIteration".split()
)
BUILTIN_METHODS = set(
    "append clear copy count endswith extend find get index insert isalnum isalpha isdigit islower isspace isupper items "
    "join keys ljust lower lstrip partition pop remove replace reverse rfind rjust rpartition rsplit rstrip setdefault "
    "split splitlines startswith strip update upper values zfill bit_length add discard".split()
)
DUNDERS = {"__init__", "__eq__", "__repr__", "__str__", "__len__", "__enter__", "__exit__"}
BARRED_NODES = (
    ast.Global, ast.AsyncFunctionDef, ast.AsyncFor, ast.AsyncWith, ast.Await, ast.NamedExpr, ast.Div, ast.Import,
)
MODULE_NODES = (ast.ImportFrom, ast.FunctionDef, ast.ClassDef, ast.Assign)
TREES = {path.name: ast.parse(path.read_text()) for path in FILES if path.suffix == ".py"}


def bound_names(tree):
    """Every name that a file binds somewhere."""
    names = []
    for node in ast.walk(tree):
        if isinstance(node, (ast.FunctionDef, ast.ClassDef)):
            names.append(node.name)
        elif isinstance(node, ast.arg):
            names.append(node.arg)
        elif isinstance(node, ast.alias):
            names.append(node.asname or node.name)
        elif isinstance(node, ast.Name) and not isinstance(node.ctx, ast.Load):
            names.append(node.id)
        elif isinstance(node, ast.Attribute) and isinstance(node.ctx, ast.Store):
            names.append(node.attr)
        elif isinstance(node, (ast.ExceptHandler, ast.MatchAs, ast.MatchStar)) and node.name:
            names.append(node.name)
    return names


def top_names(tree):
    """The names that a file binds at module level, each as often as it does."""
    names = []
    for node in tree.body:
        if isinstance(node, ast.ImportFrom):
            names += [alias.asname or alias.name for alias in node.names]
        elif isinstance(node, (ast.FunctionDef, ast.ClassDef)):
            names.append(node.name)
        elif isinstance(node, ast.Assign):
            names += [target.id for target in node.targets]
    return names


def inner_names(tree):
    """The names of parameters and local variables."""
    names = []
    for function in ast.walk(tree):
        if isinstance(function, (ast.FunctionDef, ast.Lambda)):
            for node in ast.walk(function):
                if isinstance(node, ast.arg):
                    names.append(node.arg)
                elif isinstance(node, ast.Name) and not isinstance(node.ctx, ast.Load):
                    names.append(node.id)
                elif isinstance(node, (ast.ExceptHandler, ast.MatchAs, ast.MatchStar)) and node.name:
                    names.append(node.name)
    return names


def all_nodes(kind):
    """All nodes of that kind, in all files."""
    return [node for tree in TREES.values() for node in ast.walk(tree) if isinstance(node, kind)]


class Language(unittest.TestCase):
    def test_only_python_files_of_plain_names(self):
        self.assertIn("__init__.py", [path.name for path in FILES])
        for path in FILES:
            self.assertRegex(path.name, r"\A(__init__|__main__|[a-z][a-z0-9_]*)\.py\Z")

    def test_signs_and_sizes(self):
        for path in FILES:
            with self.subTest(path.name):
                text = path.read_bytes().decode("ascii")
                self.assertEqual(re.findall(r"[^\n -~]", text), [])
                self.assertLessEqual(len(text.splitlines()), 400)
                self.assertLessEqual(max(len(line) for line in text.splitlines()), 120)
                self.assertIsNone(BARRED_WORDS.search(text))

    def test_functions_are_short(self):
        for file, tree in TREES.items():
            for node in ast.walk(tree):
                if isinstance(node, ast.FunctionDef):
                    self.assertLessEqual(node.end_lineno - node.lineno + 1, 40, f"{file}: {node.name}")

    def test_imports_come_from_the_package_and_lead_in_no_ring(self):
        imports = {}
        for file, tree in TREES.items():
            found = [node for node in ast.walk(tree) if isinstance(node, ast.ImportFrom)]
            for node in found:
                self.assertEqual(node.level, 0, file)
                self.assertRegex(node.module, r"\Acardlanes\.[a-z_]+\Z", file)
                self.assertNotIn("*", [name.name for name in node.names], file)
            imports["cardlanes." + file.removesuffix(".py")] = {node.module for node in found}
        while imports:
            last = [name for name in imports if not imports[name] & set(imports)]
            self.assertTrue(last, imports)
            for name in last:
                del imports[name]

    def test_module_level(self):
        for file, tree in TREES.items():
            self.assertIsNotNone(ast.get_docstring(tree), file)
            for node in tree.body[1:]:
                self.assertIsInstance(node, MODULE_NODES, file)

    def test_names(self):
        for file, tree in TREES.items():
            for name in bound_names(tree):
                if name not in DUNDERS:
                    self.assertRegex(name, r"\A[A-Za-z][A-Za-z0-9_]*\Z", file)
                    self.assertNotIn(name, BUILTINS, file)

    def test_only_names_that_are_bound_or_allowed_are_read(self):
        for file, tree in TREES.items():
            known = BUILTINS | set(bound_names(tree))
            for node in ast.walk(tree):
                if isinstance(node, ast.Name) and isinstance(node.ctx, ast.Load):
                    self.assertIn(node.id, known, file)

    def test_statements_and_values(self):
        for file, tree in TREES.items():
            for node in ast.walk(tree):
                self.assertNotIsInstance(node, BARRED_NODES, file)
                if isinstance(node, ast.Constant):
                    self.assertNotIsInstance(node.value, (float, complex), file)
                    self.assertNotIn("%", str(node.value), file)
                if isinstance(node, ast.Compare) and isinstance(node.ops[0], (ast.Is, ast.IsNot)):
                    self.assertIn(ast.unparse(node.comparators[0]), ("None", "True", "False"), file)

    def test_each_name_at_module_level_is_bound_once(self):
        for file, tree in TREES.items():
            names = top_names(tree)
            self.assertEqual(sorted(set(names)), sorted(names), file)

    def test_inner_names_are_not_those_of_classes_imports_or_builtins(self):
        for file, tree in TREES.items():
            barred = {node.name for node in tree.body if isinstance(node, ast.ClassDef)} | set(dir(builtins))
            for node in tree.body:
                if isinstance(node, ast.ImportFrom):
                    barred |= {alias.asname or alias.name for alias in node.names}
            self.assertEqual(barred & set(inner_names(tree)), set(), file)

    def test_no_name_is_a_method_and_an_attribute(self):
        methods = {node.name for made in all_nodes(ast.ClassDef) for node in made.body if isinstance(node, ast.FunctionDef)}
        stored = {node.attr for node in all_nodes(ast.Attribute) if isinstance(node.ctx, ast.Store)}
        self.assertEqual(methods & stored, set())
        read = {node.attr for node in all_nodes(ast.Attribute) if isinstance(node.ctx, ast.Load)}
        self.assertEqual(read - stored - methods - BUILTIN_METHODS, set())

    def test_a_class_is_only_called_or_a_base_or_asked_for(self):
        classes = {node.name for node in all_nodes(ast.ClassDef)}
        for file, tree in TREES.items():
            free = []
            for node in ast.walk(tree):
                if isinstance(node, ast.Call):
                    free.append(node.func)
                    if ast.unparse(node.func) == "isinstance":
                        free += ast.walk(node.args[1])
                elif isinstance(node, ast.ClassDef):
                    free += node.bases
                elif isinstance(node, ast.ExceptHandler):
                    free += ast.walk(node.type)
            for node in ast.walk(tree):
                if isinstance(node, ast.Name) and node.id in classes:
                    self.assertIn(node, free, f"{file}: {node.lineno}")

    def test_patterns_are_plain_and_their_names_are_read_in_their_own_case_only(self):
        plain = (ast.MatchValue, ast.MatchSingleton, ast.MatchSequence, ast.MatchStar, ast.MatchAs)
        for node in all_nodes(ast.match_case):
            for part in ast.walk(node.pattern):
                if isinstance(part, ast.pattern):
                    self.assertIsInstance(part, plain)
            if node.guard is not None:
                self.assertEqual([part for part in ast.walk(node.guard) if isinstance(part, ast.Call)], [])
        for function in all_nodes(ast.FunctionDef):
            cases = [node for node in ast.walk(function) if isinstance(node, ast.match_case)]
            inside = [part for case in cases for part in ast.walk(case)]
            names = {part.name for part in inside if isinstance(part, (ast.MatchAs, ast.MatchStar))}
            told = [node.arg for node in ast.walk(function) if isinstance(node, ast.arg)]
            told += [node.id for node in ast.walk(function) if isinstance(node, ast.Name) and node not in inside]
            stored = [node for node in inside if isinstance(node, ast.Name) and not isinstance(node.ctx, ast.Load)]
            told += [node.id for node in stored]
            self.assertEqual(names & set(told), set(), function.name)

    def test_only_own_errors_are_caught(self):
        for node in all_nodes(ast.ExceptHandler):
            self.assertRegex(ast.unparse(node.type), r"\A(LaneError|No[A-Z][a-z]+)\Z")

    def test_an_error_is_made_where_it_is_raised(self):
        for node in all_nodes(ast.Raise):
            if node.exc is not None:
                self.assertIsInstance(node.exc, ast.Call)
                self.assertIsInstance(node.exc.func, ast.Name)


if __name__ == "__main__":
    unittest.main()

"""The package keeps to the plain subset of Python in which it is written.

Not every rule can be seen by a program; this test looks at those that are
easily broken by mistake.
"""

import ast
import builtins
import pathlib
import re
import unittest

# Without what an interactive session, or doctest, leaves there.
BUILT_IN = set(dir(builtins)) - {"_"}
FOLDER = pathlib.Path(__file__).resolve().parent.parent / "portolan"
BUILTINS = set("""
len range enumerate zip min max sum abs sorted reversed int str bool bytes list tuple dict set frozenset isinstance
ord repr any all divmod pow ValueError TypeError KeyError IndexError LookupError ZeroDivisionError super
""".split())
METHODS = set("""
append clear copy count endswith extend find get index insert isalnum isalpha isdigit islower isspace isupper items
join keys ljust lower lstrip partition pop remove replace reverse rfind rjust rpartition rsplit rstrip setdefault
split splitlines startswith strip update upper values zfill bit_length isascii isdecimal removeprefix removesuffix
""".split())
NODES = (
    ast.AsyncFunctionDef, ast.AsyncFor, ast.AsyncWith, ast.Await, ast.Global, ast.Div, ast.MatMult, ast.SetComp,
    ast.Yield, ast.YieldFrom, ast.AnnAssign, ast.Is, ast.IsNot,
)
LIBRARY = {"math": {"gcd", "lcm", "isqrt", "comb", "perm", "factorial"},
           "itertools": {"product", "combinations", "permutations"}}
BARRED = """register mro elements open input law version_info with_traceback add_note attrgetter breakpoint builtins
compile copyright credits delattr dir eval exec exit gc getattr globals hasattr help id importlib license locals
methodcaller os quit setattr type vars sys""".split()
WORDS = """type typing typing_extensions enum Enum IntEnum StrEnum Flag IntFlag Generic Protocol ABC ABCMeta
namedtuple NamedTuple TypedDict TYPE_CHECKING abstractmethod""".split()


def files():
    return sorted(FOLDER.glob("**/*.py"))


def trees():
    for file in files():
        yield file.name, ast.parse(file.read_text("ascii"))


def bound_names(tree):
    """All names that functions, classes, parameters and assignments give to something."""
    for node in ast.walk(tree):
        if isinstance(node, (ast.FunctionDef, ast.ClassDef)):
            yield node.name
        elif isinstance(node, ast.arg):
            yield node.arg
        elif isinstance(node, ast.Name) and not isinstance(node.ctx, ast.Load):
            yield node.id


class Language(unittest.TestCase):
    def test_files(self):
        self.assertLessEqual(len(files()), 100)
        for path in FOLDER.glob("**/*"):
            if "__pycache__" in path.parts:
                continue
            self.assertTrue(re.fullmatch(r"[a-z_0-9]+\.py", path.name), path)
            self.assertNotIn(path.stem, BUILT_IN)

    def test_sizes_and_characters(self):
        for file in files():
            text = file.read_text("ascii")
            self.assertTrue(all(" " <= c <= "~" or c == "\n" for c in text), file)
            lines = text.split("\n")
            self.assertLessEqual(len(lines), 399, file)
            self.assertLessEqual(max(map(len, lines)), 120, file)
        for name, tree in trees():
            for node in ast.walk(tree):
                if isinstance(node, ast.FunctionDef):
                    self.assertLessEqual(node.end_lineno - node.lineno + 1, 40, (name, node.name))
                    self.assertEqual(node.decorator_list, [])

    def test_statements(self):
        for name, tree in trees():
            for node in ast.walk(tree):
                bad = isinstance(node, NODES)
                if isinstance(node, ast.Compare):
                    bad = False
                    for operator, other in zip(node.ops, node.comparators):
                        if isinstance(operator, (ast.Is, ast.IsNot)):
                            self.assertIsInstance(other, ast.Constant, (name, node.lineno))
                if isinstance(node, (ast.Is, ast.IsNot)):
                    bad = False
                if isinstance(node, ast.Constant):
                    bad = isinstance(node.value, (float, complex)) or node.value is Ellipsis
                self.assertFalse(bad, (name, ast.dump(node)[:80]))
                if isinstance(node, ast.BinOp) and isinstance(node.op, ast.Pow):
                    self.assertIsInstance(node.right, ast.Constant, (name, node.lineno))
                    self.assertLessEqual(node.right.value, 64)

    def test_module_level(self):
        for name, tree in trees():
            bound = []
            for node in tree.body:
                if isinstance(node, ast.ImportFrom):
                    bound += [alias.name for alias in node.names]
                elif isinstance(node, (ast.FunctionDef, ast.ClassDef)):
                    bound.append(node.name)
                elif isinstance(node, ast.Assign):
                    self.assertEqual(len(node.targets), 1)
                    bound.append(node.targets[0].id)
                    self.assertFalse([part for part in ast.walk(node.value) if isinstance(part, ast.Call)])
                else:
                    self.assertTrue(isinstance(node, ast.Expr) and isinstance(node.value, ast.Constant), name)
            self.assertEqual(len(bound), len(set(bound)), name)
            inner = []
            for node in tree.body:
                if isinstance(node, ast.FunctionDef):
                    inner += list(bound_names(ast.Module(node.body, []))) + [a.arg for a in node.args.args]
            classes = {node.name for node in tree.body if isinstance(node, ast.ClassDef)}
            imports = {alias.name for node in tree.body if isinstance(node, ast.ImportFrom) for alias in node.names}
            self.assertEqual(set(inner) & (classes | imports), set(), name)

    def test_imports(self):
        defined = {}
        needs = {}
        for name, tree in trees():
            module = name[:-3]
            defined[module] = set(bound_names(ast.Module([
                node for node in tree.body if not isinstance(node, ast.ImportFrom)], [])))
            needs[module] = []
            for node in ast.walk(tree):
                self.assertNotIsInstance(node, ast.Import, name)
                if isinstance(node, ast.ImportFrom):
                    self.assertEqual(node.level, 0)
                    needs[module].append((node.module, [(alias.name, alias.asname) for alias in node.names]))
        for module, imports in needs.items():
            for source, names in imports:
                for wanted, other in names:
                    self.assertIsNone(other)
                    if source in LIBRARY:
                        self.assertIn(wanted, LIBRARY[source])
                    else:
                        package, _, file = source.partition(".")
                        self.assertEqual(package, "portolan")
                        self.assertIn(wanted, defined[file], (module, wanted))
        self.without_circles({module: [source.partition(".")[2] for source, _ in imports if source not in LIBRARY]
                              for module, imports in needs.items()})

    def without_circles(self, needs):
        done = set()
        while len(done) < len(needs):
            ready = [name for name in needs if name not in done and set(needs[name]) <= done]
            self.assertTrue(ready, "the files import each other in a circle")
            done.update(ready)

    def test_names(self):
        for name, tree in trees():
            for bound in bound_names(tree):
                self.assertNotIn(bound, BUILT_IN, name)
                self.assertNotIn(bound, BARRED, name)
                self.assertTrue(re.fullmatch(r"_|_?[A-Za-z][A-Za-z0-9_]*|__init__", bound), (name, bound))
            for node in ast.walk(tree):
                if isinstance(node, ast.Name) and node.id in BUILT_IN:
                    self.assertIn(node.id, BUILTINS, (name, node.lineno))
                if isinstance(node, ast.Name) and isinstance(node.ctx, ast.Load):
                    self.assertNotEqual(node.id, "_", (name, node.lineno))

    def test_methods(self):
        for name, tree in trees():
            for node in ast.walk(tree):
                if isinstance(node, ast.Call) and isinstance(node.func, ast.Attribute):
                    self.assertIn(node.func.attr, METHODS | {"__init__"}, (name, node.lineno))
                    self.assertEqual(node.keywords, [])

    def test_strings(self):
        for name, tree in trees():
            documents = set()
            for node in ast.walk(tree):
                if isinstance(node, (ast.Module, ast.FunctionDef, ast.ClassDef)) and node.body:
                    first = node.body[0]
                    if isinstance(first, ast.Expr) and isinstance(first.value, ast.Constant):
                        documents.add(first.value)
            for node in ast.walk(tree):
                if isinstance(node, ast.Constant) and isinstance(node.value, str) and node not in documents:
                    self.assertNotIn("%", node.value, (name, node.lineno))
                    for word in re.findall(r"[A-Za-z_]+", node.value):
                        self.assertNotIn(word, WORDS, (name, node.lineno))

    def test_calls_pass_what_is_taken(self):
        """Each call of a function of the package has as many arguments as it has parameters, none by keyword."""
        takes = {}
        for _, tree in trees():
            for node in tree.body:
                if isinstance(node, ast.FunctionDef):
                    takes.setdefault(node.name, set()).add(len(node.args.args))
        for name, tree in trees():
            for node in ast.walk(tree):
                if isinstance(node, ast.Call) and isinstance(node.func, ast.Name) and node.func.id in takes:
                    self.assertIn(len(node.args), takes[node.func.id], (name, node.lineno))

    def test_everything_is_used(self):
        """No import and no function of the package's own is left over."""
        used = set()
        for name, tree in trees():
            loads = {node.id for node in ast.walk(tree) if isinstance(node, ast.Name)}
            for node in tree.body:
                if isinstance(node, ast.ImportFrom):
                    for alias in node.names:
                        self.assertIn(alias.name, loads, name)
            used |= loads
        text = (FOLDER.parent / "tests" / "test_interface.py").read_text()
        for name, tree in trees():
            for node in tree.body:
                if isinstance(node, ast.FunctionDef):
                    self.assertTrue(node.name in used or node.name + "(" in text, (name, node.name))

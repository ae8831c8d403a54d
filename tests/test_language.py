"""The files of the package: the subset of Python that they keep to, and what they define.

Only those rules are checked here that can be told by looking at one file.
"""

import ast
import builtins
import inspect
import io
import re
import tokenize
import unittest
import warnings
from pathlib import Path

from membrane import errors, objects, plain, policies, programs, replay, traces, values, world

PACKAGE = Path(__file__).resolve().parent.parent / "membrane"

INTERFACE = {
    errors: ("MembraneError", "BadProgram", "BadPolicy", "BadState", "BadTrace"),
    values: ("is_value(v)", "truth(v)", "kind(heap, v)", "text_of(heap, v)", "combined(op, a, b)"),
    objects: ("perform(heap, k, operation)", "members_of(thing)", "parent_of(thing)"),
    programs: ("check_block(block)",),
    plain: ("Plain(left, right)",),
    policies: ("check_policy(policy)", "asked(policy, n, operation)", "shown_names(policy, n, names)"),
    world: ("World(left, right)",),
    traces: ("check_trace(trace)",),
    replay: ("Replay(side, policy, deeds, trace)",),
}

METHODS = {
    plain.Plain: ("run(self, side, block, fuel)", "hand(self, side, x)", "revoke(self)", "text(self, v)"),
    world.World: (
        "begin(self, side, block)", "go(self, many)", "state(self)", "ended(self)", "hand(self, side, x)",
        "revoke(self)", "trace(self)", "out(self, side)", "steps(self, side)", "held(self, side)",
    ),
    replay.Replay: ("go(self, many)", "result(self)", "held(self)", "place(self)"),
}

LIBRARY = {
    "heapq": ("heappush", "heappop", "heapify", "heapreplace", "heappushpop"),
    "math": ("gcd", "lcm", "isqrt", "comb", "perm", "factorial"),
    "itertools": (
        "product", "combinations", "permutations",
        "chain", "accumulate", "pairwise", "islice", "zip_longest",
    ),
    "collections": ("defaultdict",),
}

BUILTINS = """
    len range enumerate zip min max sum abs sorted reversed int str bool bytes list tuple dict set frozenset
    isinstance ord repr any all divmod pow getattr hasattr setattr iter next map super property staticmethod
    classmethod Exception ValueError TypeError KeyError IndexError LookupError ZeroDivisionError ArithmeticError
    OverflowError RuntimeError NotImplementedError AttributeError StopIteration NotImplemented object float
""".split()

NOWHERE = "register mro elements open input law version_info with_traceback add_note".split()

BARRED_NAMES = """
    attrgetter breakpoint builtins compile copyright credits delattr dir eval exec exit gc globals help id importlib
    license locals methodcaller os quit type vars sys __name__
""".split()

BARRED_WORDS = """
    type typing typing_extensions enum Enum IntEnum StrEnum Flag IntFlag Generic Protocol ABC ABCMeta namedtuple
    NamedTuple TypedDict TYPE_CHECKING abstractmethod
""".split()

BARRED_NODES = (
    ast.Global, ast.AsyncFunctionDef, ast.AsyncFor, ast.AsyncWith, ast.Await, ast.Div, ast.MatMult,
    ast.TryStar, ast.Import,
)


def files():
    return sorted(PACKAGE.rglob("*.py"))


def trees():
    for path in files():
        yield path.name, ast.parse(path.read_text(encoding="utf-8"))


def nodes(*kinds):
    for name, tree in trees():
        for node in ast.walk(tree):
            if isinstance(node, kinds):
                yield f"{name}:{getattr(node, 'lineno', 0)}", node


def docstrings(tree):
    """The nodes of all docstrings of a file."""
    found = []
    for node in ast.walk(tree):
        if isinstance(node, (ast.Module, ast.ClassDef, ast.FunctionDef)) and ast.get_docstring(node) is not None:
            found.append(node.body[0].value)
    return found


def bound_names(tree):
    """What a file itself gives a name to, but attributes and methods' own names."""
    for node in ast.walk(tree):
        if isinstance(node, (ast.FunctionDef, ast.ClassDef)):
            yield node.name
        elif isinstance(node, ast.arg):
            yield node.arg
        elif isinstance(node, ast.Name) and isinstance(node.ctx, ast.Store):
            yield node.id
        elif isinstance(node, ast.alias):
            yield node.asname or node.name


class LanguageTest(unittest.TestCase):
    def test_the_folder_holds_files_of_python_only(self):
        self.assertIn(PACKAGE / "__init__.py", files())
        for path in PACKAGE.rglob("*"):
            if path.is_file() and path.parent.name != "__pycache__":
                self.assertRegex(path.name, r"\A[a-z0-9_]+\.py\Z")
                self.assertNotRegex(path.name, r"\Atest")

    def test_lines_and_characters(self):
        for path in files():
            data = path.read_bytes()
            self.assertEqual([c for c in data if c != 10 and not 32 <= c <= 126], [], path.name)
            lines = data.decode("ascii").split("\n")
            self.assertLessEqual(len(lines), 400, path.name)
            self.assertLessEqual(max(len(line) for line in lines), 120, path.name)

    def test_lengths_of_functions(self):
        for place, node in nodes(ast.FunctionDef):
            self.assertLessEqual(node.end_lineno - node.lineno + 1, 40, place)

    def test_imports(self):
        for place, node in nodes(ast.ImportFrom):
            self.assertEqual(node.level, 0, place)
            for alias in node.names:
                if node.module in LIBRARY:
                    self.assertIn(alias.name, LIBRARY[node.module], place)
                else:
                    self.assertRegex(node.module, r"\A(membrane\.[a-z_]+|__future__)\Z", place)
                    self.assertNotEqual(alias.name, "*", place)

    def test_module_level(self):
        allowed = (ast.ImportFrom, ast.FunctionDef, ast.ClassDef, ast.Assign)
        for name, tree in trees():
            for node in tree.body[1 if ast.get_docstring(tree) is not None else 0:]:
                self.assertIsInstance(node, allowed, f"{name}:{node.lineno}")

    def test_statements_and_signs(self):
        for place, node in nodes(ast.AST):
            self.assertNotIsInstance(node, BARRED_NODES, place)
            if isinstance(node, (ast.FunctionDef, ast.ClassDef)):
                for decorator in node.decorator_list:
                    told = ast.unparse(decorator)
                    self.assertRegex(told, r"\A(property|staticmethod|classmethod|\w+\.setter)\Z", place)
            if isinstance(node, ast.ExceptHandler):
                self.assertIsNotNone(node.type, place)
            if isinstance(node, ast.Constant):
                self.assertNotIsInstance(node.value, (float, complex), place)

    def test_strings(self):
        for name, tree in trees():
            told = docstrings(tree)
            for node in ast.walk(tree):
                if isinstance(node, ast.Constant) and isinstance(node.value, str) and node not in told:
                    self.assertNotIn("%", node.value, f"{name}:{node.lineno}")
                    self.assertNotRegex(node.value, r"\A__.*__\Z", f"{name}:{node.lineno}")
                    for word in BARRED_WORDS:
                        if word != "type":
                            self.assertNotRegex(node.value, rf"\b{word}\b", f"{name}:{node.lineno}")

    def test_names(self):
        own = {name for _, tree in trees() for name in bound_names(tree)}
        for name, tree in trees():
            for word in bound_names(tree):
                self.assertNotIn(word, BARRED_NAMES, name)
                self.assertRegex(word, r"\A(_?[A-Za-z][A-Za-z0-9_]*|_|__init__|__\w+__)\Z", name)
                if word != "_" and not word.startswith("__"):
                    self.assertFalse(hasattr(builtins, word), f"{name}: {word}")
            for node in ast.walk(tree):
                if isinstance(node, ast.Name) and isinstance(node.ctx, ast.Load):
                    self.assertTrue(node.id in own or node.id in BUILTINS, f"{name}:{node.lineno} {node.id}")

    def test_words(self):
        for path in files():
            for token in tokenize.generate_tokens(io.StringIO(path.read_text(encoding="utf-8")).readline):
                if token.type == tokenize.NAME:
                    self.assertNotIn(token.string, BARRED_WORDS + NOWHERE, f"{path.name}:{token.start[0]}")

    def test_python_gives_no_warning(self):
        with warnings.catch_warnings():
            warnings.simplefilter("error")
            for path in files():
                compile(path.read_text(encoding="utf-8"), path.name, "exec")

    def test_no_state_at_module_level(self):
        for name, tree in trees():
            told = [target.id for node in tree.body if isinstance(node, ast.Assign) for target in node.targets]
            self.assertEqual(len(told), len(set(told)), name)
            for function in [node for node in ast.walk(tree) if isinstance(node, ast.FunctionDef)]:
                for node in ast.walk(function):
                    changed = isinstance(node, (ast.Subscript, ast.Attribute)) and isinstance(node.ctx, ast.Store)
                    if changed and isinstance(node.value, ast.Name):
                        self.assertNotIn(node.value.id, told, f"{name}:{node.lineno}")

    def test_what_stands_at_module_level_is_not_passed_on(self):
        # Lists and dicts that stand there are read in place, and functions in them are given a name ahead of a call.
        for name, tree in trees():
            told = [
                node.targets[0].id for node in tree.body
                if isinstance(node, ast.Assign) and isinstance(node.value, (ast.List, ast.Dict))
            ]
            for node in ast.walk(tree):
                if isinstance(node, ast.Call):
                    self.assertNotIsInstance(node.func, (ast.Subscript, ast.Call), f"{name}:{node.lineno}")
                    for part in node.args + [keyword.value for keyword in node.keywords]:
                        self.assertFalse(isinstance(part, ast.Name) and part.id in told, f"{name}:{node.lineno}")
                if isinstance(node, (ast.Return, ast.Assign)):
                    given = getattr(node.value, "id", None)
                    self.assertNotIn(given, told, f"{name}:{node.lineno}")

    def test_names_of_methods_and_attributes(self):
        # A name is a method or an attribute; but BadTrace has the field place, and Replay the method.
        methods, attributes = set(), set()
        for _, tree in trees():
            for node in ast.walk(tree):
                if isinstance(node, ast.ClassDef):
                    told = [part.name for part in node.body if isinstance(part, ast.FunctionDef)]
                    self.assertEqual(len(told), len(set(told)), node.name)
                    methods.update(told)
                if isinstance(node, ast.Attribute) and isinstance(node.ctx, ast.Store):
                    attributes.add(node.attr)
        self.assertEqual(methods & attributes, {"place"})

    def test_no_method_is_read_off_a_class(self):
        classes = {node.name for _, node in nodes(ast.ClassDef)}
        for place, node in nodes(ast.Attribute):
            self.assertFalse(isinstance(node.value, ast.Name) and node.value.id in classes, place)

    def test_imports_make_no_circle(self):
        told = {
            path.stem: set(re.findall(r"^from membrane\.(\w+) import", path.read_text(encoding="utf-8"), re.MULTILINE))
            for path in files()
        }
        while told:
            free = [name for name, needed in told.items() if not needed & set(told)]
            self.assertTrue(free, told)
            for name in free:
                del told[name]

    def test_the_program_prints_and_reads_nothing(self):
        for path in files():
            if path.name != "__main__.py":
                self.assertIsNone(re.search(r"\b(print|input|open)\(", path.read_text(encoding="utf-8")), path.name)


class InterfaceTest(unittest.TestCase):
    def test_each_name_is_defined_in_its_file(self):
        for module, told in INTERFACE.items():
            tree = ast.parse(Path(module.__file__).read_text(encoding="utf-8"))
            defined = [node.name for node in tree.body if isinstance(node, (ast.FunctionDef, ast.ClassDef))]
            for words in told:
                with self.subTest(words=words):
                    self.assertIn(words.partition("(")[0], defined)

    def test_arguments(self):
        for module, told in INTERFACE.items():
            for words in told:
                name, bracket, _ = words.partition("(")
                if bracket:
                    with self.subTest(words=words):
                        self.assertEqual(name + str(inspect.signature(getattr(module, name))), words)

    def test_methods(self):
        for owner, told in METHODS.items():
            for words in told:
                name = words.partition("(")[0]
                with self.subTest(words=words):
                    # In the class itself, not in a base class.
                    self.assertEqual(name + str(inspect.signature(vars(owner)[name])), words)


if __name__ == "__main__":
    unittest.main()

"""The rules of LANGUAGE.md that can be read off the files of the package, by the numbers of the rules."""

import ast
import builtins
import os
import re
import unittest

FOLDER = os.path.join(os.path.dirname(os.path.dirname(os.path.abspath(__file__))), "namesalone")

BUILTINS = set("""len range enumerate zip min max sum abs sorted reversed int str bool list tuple dict set isinstance
    ord repr any all divmod object Exception ValueError TypeError KeyError IndexError LookupError ZeroDivisionError
    ArithmeticError OverflowError RuntimeError NotImplementedError NotImplemented""".split())
METHODS = set("""append clear copy count endswith extend find get index insert isalnum isalpha isdigit islower isspace
    isupper items join keys ljust lower lstrip partition pop remove replace reverse rfind rjust rpartition rsplit
    rstrip setdefault split splitlines startswith strip update upper values zfill bit_length add discard sort
    __init__""".split())
LIBRARY = {"heapq": {"heappush", "heappop", "heapify", "heapreplace", "heappushpop"},
           "math": {"gcd", "lcm", "isqrt", "comb", "perm", "factorial"}, "collections": {"defaultdict"},
           "itertools": {"product", "combinations", "permutations", "chain", "accumulate", "pairwise", "islice",
                         "zip_longest"}}
STATEMENTS = (ast.Assign, ast.AugAssign, ast.AnnAssign, ast.If, ast.While, ast.For, ast.Return, ast.Break,
              ast.Continue, ast.Pass, ast.Raise, ast.Assert, ast.Delete, ast.Nonlocal, ast.Match, ast.With, ast.Try,
              ast.Expr, ast.FunctionDef, ast.ClassDef, ast.ImportFrom)
BARRED = set("""type typing typing_extensions enum Enum IntEnum StrEnum Flag IntFlag Generic Protocol ABC ABCMeta
    namedtuple NamedTuple TypedDict TYPE_CHECKING abstractmethod""".split())
NEVER = set("""register mro elements open input law version_info with_traceback add_note attrgetter breakpoint
    builtins compile copyright credits delattr dir eval exec exit gc getattr globals hasattr help id importlib license
    locals methodcaller os quit setattr super type vars sys""".split())


def files():
    # A run of the tests may leave Python's own folder there, which is no part of the package.
    return [file for file in sorted(os.listdir(FOLDER)) if file != "__pycache__"]


def read(file):
    with open(os.path.join(FOLDER, file), encoding="ascii") as held:
        return held.read()


def nodes(file, *kinds):
    return [node for node in ast.walk(ast.parse(read(file))) if isinstance(node, kinds)]


def own_file(node):
    """The file of the package from which an import takes its names."""
    return re.fullmatch(r"namesalone\.(\w+)", node.module).group(1) + ".py"


def bound_in(node):
    """The names that a function or module binds, nested ones included."""
    found = []
    for inner in ast.walk(node):
        if isinstance(inner, ast.Name) and isinstance(inner.ctx, ast.Store):
            found.append(inner.id)
        elif isinstance(inner, ast.arg):
            found.append(inner.arg)
        elif isinstance(inner, (ast.FunctionDef, ast.ClassDef)):
            found.append(inner.name)
    return found


def of_each_file(check):
    """The check of one file as a test of all of them."""
    def test(self):
        for file in files():
            with self.subTest(file):
                check(self, file)
    return test


class Language(unittest.TestCase):
    @of_each_file
    def test_l1_plain_files_alone(self, file):
        self.assertRegex(file, r"^[a-z_][a-z0-9_]*\.py$")
        self.assertIn("__init__.py", files())

    @of_each_file
    def test_l2_l16_imports(self, file):
        self.assertEqual(nodes(file, ast.Import), [])
        top = [node for node in ast.parse(read(file)).body if isinstance(node, ast.ImportFrom)]
        self.assertEqual(len(nodes(file, ast.ImportFrom)), len(top))
        for node in top:
            self.assertEqual(node.level, 0)
            for name in node.names:
                self.assertIsNone(name.asname)
                if node.module in LIBRARY:
                    self.assertIn(name.name, LIBRARY[node.module])
                else:
                    self.assertIn(name.name, self.defined_in(own_file(node)))

    def test_l16_no_two_files_import_from_each_other(self):
        needs = {file: [own_file(node) for node in nodes(file, ast.ImportFrom) if node.module not in LIBRARY]
                 for file in files()}
        while needs:
            last = [file for file, others in needs.items() if not any([other in needs for other in others])]
            self.assertTrue(last, needs)
            needs = {file: others for file, others in needs.items() if file not in last}

    def defined_in(self, file):
        made = [node.name for node in ast.parse(read(file)).body if isinstance(node, (ast.FunctionDef, ast.ClassDef))]
        return made + self.values_of(file)

    def values_of(self, file):
        return [node.targets[0].id for node in ast.parse(read(file)).body if isinstance(node, ast.Assign)]

    @of_each_file
    def test_l3_module_level(self, file):
        for at, node in enumerate(ast.parse(read(file)).body):
            if isinstance(node, ast.Expr):
                self.assertTrue(at == 0 and isinstance(node.value.value, str))
            else:
                self.assertIsInstance(node, (ast.FunctionDef, ast.ClassDef, ast.ImportFrom, ast.Assign))

    @of_each_file
    def test_l6_l7_statements_and_values(self, file):
        for node in nodes(file, ast.stmt):
            self.assertIsInstance(node, STATEMENTS, ast.dump(node))
        self.assertEqual(nodes(file, ast.Div, ast.Await, ast.TypeIgnore), [])
        for node in nodes(file, ast.Constant):
            self.assertNotIsInstance(node.value, (float, complex))

    @of_each_file
    def test_l8_builtins_and_l12_names(self, file):
        names = {node.id for node in nodes(file, ast.Name)}
        self.assertEqual(names & set(dir(builtins)) - BUILTINS, set())
        bound = bound_in(ast.parse(read(file)))
        self.assertEqual([name for name in bound if name in dir(builtins) or name in NEVER], [])
        self.assertEqual([name for name in bound if name.startswith("__")
                          and not re.fullmatch(r"__(init|eq|iter|len|str|repr)__", name)], [])
        self.assertEqual([name for name in names if name.startswith("__")], [])
        self.assertNotIn("_", [node.id for node in nodes(file, ast.Name) if isinstance(node.ctx, ast.Load)])

    @of_each_file
    def test_l10_sizes_and_l14_signs(self, file):
        lines = read(file).split("\n")
        self.assertLessEqual(len(lines), 399)
        self.assertLessEqual(max([len(line) for line in lines]), 120)
        self.assertIsNone(re.search(r"[^ -~\n]", read(file)))
        self.assertEqual([line for line in lines if line != line.rstrip()], [])
        for node in nodes(file, ast.FunctionDef):
            self.assertLessEqual(node.end_lineno - node.lineno + 1, 40)

    @of_each_file
    def test_l15_one_meaning_for_a_name(self, file):
        imported = [name.name for node in nodes(file, ast.ImportFrom) for name in node.names]
        classes = [node.name for node in nodes(file, ast.ClassDef)]
        top = imported + self.defined_in(file)
        self.assertEqual(len(set(top)), len(top))
        for node in nodes(file, ast.FunctionDef):
            inner = [name for part in node.body + [node.args] for name in bound_in(part)]
            self.assertEqual([name for name in inner if name in imported + classes], [], node.name)

    @of_each_file
    def test_l17_words(self, file):
        words = [node.id for node in nodes(file, ast.Name)] + [node.attr for node in nodes(file, ast.Attribute)]
        self.assertEqual([word for word in words if word in BARRED | NEVER], [])

    @of_each_file
    def test_l20_is(self, file):
        for node in nodes(file, ast.Compare):
            for sign, value in zip(node.ops, node.comparators):
                if isinstance(sign, (ast.Is, ast.IsNot)):
                    self.assertIsInstance(value, ast.Constant)
                    self.assertIn(repr(value.value), ("None", "True", "False"))

    @of_each_file
    def test_l24_sets_are_not_kept_in_loops(self, file):
        for node in nodes(file, ast.For, ast.comprehension):
            called = isinstance(node.iter, ast.Call) and isinstance(node.iter.func, ast.Name)
            self.assertFalse(called and node.iter.func.id in ("set", "map"))

    @of_each_file
    def test_l25_methods(self, file):
        own = {inner.name for other in files() for node in nodes(other, ast.ClassDef)
               for inner in node.body if isinstance(inner, ast.FunctionDef)}
        for node in nodes(file, ast.Call):
            if isinstance(node.func, ast.Attribute):
                self.assertIn(node.func.attr, METHODS | own)

    @of_each_file
    def test_l27_strings(self, file):
        for node in nodes(file, ast.Constant):
            if isinstance(node.value, str):
                self.assertNotIn("%", node.value)
        self.assertEqual([sign for sign in re.findall(r"\\(.)", read(file)) if sign not in "nt\\'\""], [])


if __name__ == "__main__":
    unittest.main()

"""The form of the code, as far as it can be seen from one file: sizes, characters, imports, statements, words."""

import ast
import builtins
import re
import unittest
from pathlib import Path

PACKAGE = Path(__file__).parent.parent / "hushweb"
FILES = sorted(PACKAGE.glob("*.py"))
LIBRARY = {"heapq": "heappush heappop heapify heapreplace heappushpop", "math": "gcd lcm isqrt comb perm factorial",
           "itertools": "product combinations permutations chain accumulate pairwise islice zip_longest",
           "collections": "defaultdict deque", "__future__": "annotations"}
BUILTINS = set("""len range enumerate zip min max sum abs sorted reversed int str bool list tuple dict set isinstance ord
repr any all divmod pow iter next map property staticmethod classmethod super type getattr hasattr setattr Exception
ValueError TypeError KeyError IndexError LookupError ZeroDivisionError ArithmeticError OverflowError RuntimeError
NotImplementedError AttributeError StopIteration NotImplemented object""".split())
# doctest binds _ there.
ALL_BUILTINS = set(dir(builtins)) - {"_"}
STATEMENTS = (ast.Assign, ast.AugAssign, ast.AnnAssign, ast.If, ast.While, ast.For, ast.Return, ast.Break,
              ast.Continue, ast.Pass, ast.Raise, ast.Assert, ast.Delete, ast.Nonlocal, ast.Match, ast.With, ast.Try,
              ast.Expr, ast.FunctionDef, ast.ClassDef, ast.ImportFrom)
METHODS = set("""append clear copy count endswith extend find get index insert isalnum isalpha isdigit islower isspace
isupper items join keys ljust lower lstrip partition pop remove replace reverse rfind rjust rpartition rsplit rstrip
setdefault split splitlines startswith strip update upper values zfill bit_length sort format add discard
__init__""".split())
BARRED = set("""register mro elements open input law version_info with_traceback add_note attrgetter breakpoint builtins
compile copyright credits delattr dir eval exec exit gc globals help id importlib license locals methodcaller os quit
vars typing typing_extensions enum Enum IntEnum StrEnum Flag IntFlag Generic Protocol ABC ABCMeta namedtuple NamedTuple
TypedDict TYPE_CHECKING abstractmethod dataclass overload contextmanager""".split())


def tree_of(path):
    return ast.parse(path.read_text(), str(path))


def defined(path):
    """The names that a file binds at module level, imports aside."""
    body = tree_of(path).body
    names = [node.name for node in body if isinstance(node, (ast.FunctionDef, ast.ClassDef))]
    return names + [node.targets[0].id for node in body if isinstance(node, ast.Assign)]


def nodes(kind):
    for path in FILES:
        for node in ast.walk(tree_of(path)):
            if isinstance(node, kind):
                yield path.name, node


class Form(unittest.TestCase):
    def test_files(self):
        found = [path for path in PACKAGE.iterdir() if path.name != "__pycache__"]
        self.assertEqual(sorted(found), FILES)
        for path in FILES:
            self.assertRegex(path.name, r"^([a-z][a-z0-9_]*|__init__)\.py$")

    def test_sizes_and_characters(self):
        for path in FILES:
            text = path.read_text()
            rows = text.split("\n")
            self.assertLessEqual(len(rows) - 1, 399, path.name)
            self.assertEqual([row for row in rows if len(row) > 120 or row != row.rstrip()], [], path.name)
            self.assertRegex(text, r"\A[ -~\n]*\n\Z", path.name)
        for name, node in nodes(ast.FunctionDef):
            self.assertLessEqual(node.end_lineno - node.lineno + 1, 40, (name, node.name))

    def test_imports(self):
        imported = {}
        for path in FILES:
            for node in ast.walk(tree_of(path)):
                self.assertNotIsInstance(node, ast.Import, path.name)
                if isinstance(node, ast.ImportFrom):
                    self.assertEqual(node.level, 0, path.name)
                    names = [alias.name for alias in node.names]
                    if node.module in LIBRARY:
                        self.assertLessEqual(set(names), set(LIBRARY[node.module].split()))
                        continue
                    self.assertRegex(node.module, r"^hushweb\.[a-z0-9_]+$")
                    source = PACKAGE / (node.module.partition(".")[2] + ".py")
                    self.assertLessEqual(set(names), set(defined(source)), path.name)
                    imported.setdefault(path.stem, []).append(source.stem)

        def reached(stem, way):
            self.assertNotIn(stem, way, "a circle of imports")
            for further in imported.get(stem, []):
                reached(further, way + [stem])
        for stem in imported:
            reached(stem, [])

    def test_module_level(self):
        for path in FILES:
            body = tree_of(path).body
            self.assertIsNotNone(ast.get_docstring(tree_of(path)), path.name)
            for node in body[1:]:
                self.assertIsInstance(node, (ast.ImportFrom, ast.FunctionDef, ast.ClassDef, ast.Assign), path.name)
            names = defined(path) + [alias.asname or alias.name for node in body if isinstance(node, ast.ImportFrom)
                                     for alias in node.names]
            self.assertEqual(len(set(names)), len(names), path.name)

    def test_statements_and_values(self):
        for name, node in nodes(ast.stmt):
            self.assertIsInstance(node, STATEMENTS, (name, node.lineno))
        barred = (ast.GeneratorExp, ast.Div, ast.Await, ast.AsyncFunctionDef)
        self.assertEqual([(name, ast.dump(node)) for name, node in nodes(barred)], [])
        for name, node in nodes(ast.Constant):
            self.assertNotIsInstance(node.value, (float, complex), name)
        for name, node in nodes((ast.FunctionDef, ast.ClassDef)):
            told = [ast.unparse(one) for one in node.decorator_list]
            self.assertIn(told, [[], ["property"], ["staticmethod"], ["classmethod"]], (name, node.name))
        for name, node in nodes(ast.Compare):
            for sign, right in zip(node.ops, node.comparators):
                if isinstance(sign, (ast.Is, ast.IsNot)):
                    self.assertIn(ast.unparse(right), ["None", "True", "False"], (name, node.lineno))

    def test_names(self):
        for path in FILES:
            tree = tree_of(path)
            kinds = [node.name for node in tree.body if isinstance(node, ast.ClassDef)]
            kinds += [alias.name for node in tree.body if isinstance(node, ast.ImportFrom) for alias in node.names]
            for node in ast.walk(tree):
                if isinstance(node, ast.Name) and node.id in ALL_BUILTINS:
                    self.assertIn(node.id, BUILTINS, (path.name, node.lineno))
                bound = node.arg if isinstance(node, ast.arg) else ""
                if isinstance(node, ast.Name) and not isinstance(node.ctx, ast.Load):
                    bound = node.id
                self.assertNotIn(bound, ALL_BUILTINS, path.name)
                self.assertNotIn(bound, kinds, path.name)

    def test_methods_of_values(self):
        own = {node.name for _, node in nodes(ast.FunctionDef)}
        for name, node in nodes(ast.Call):
            if isinstance(node.func, ast.Attribute):
                self.assertIn(node.func.attr, METHODS | own, (name, node.lineno))

    def test_sets(self):
        for path in FILES:
            text = path.read_text()
            for found in re.finditer(r"\bset\(", text):
                before = text[:found.start()]
                self.assertTrue(re.search(r"(len\(|sorted\(|[!=]= |in |^ +\w+ = )$", before, re.M), path.name)

    def test_words(self):
        for path in FILES:
            tree = tree_of(path)
            words = [node.id for node in ast.walk(tree) if isinstance(node, ast.Name)]
            words += [node.attr for node in ast.walk(tree) if isinstance(node, ast.Attribute)]
            words += [node.arg for node in ast.walk(tree) if isinstance(node, (ast.arg, ast.keyword))]
            words += [node.name for node in ast.walk(tree) if isinstance(node, (ast.FunctionDef, ast.ClassDef))]
            self.assertEqual([word for word in words if word in BARRED], [], path.name)
            plain = ast.unparse(tree)
            self.assertNotIn("_wall", path.read_text(), path.name)
            strings = [node.value for node in ast.walk(tree_of(path))
                       if isinstance(node, ast.Constant) and isinstance(node.value, str)]
            self.assertEqual([text for text in strings if "%" in text], [], path.name)
            self.assertIsNone(re.search(r"\bglobal\b", plain), path.name)


if __name__ == "__main__":
    unittest.main()

"""What ../shared/LANGUAGE.md asks of the package's files, as far as a short look can tell."""

import ast
import pathlib
import re
import unittest

FOLDER = pathlib.Path(__file__).resolve().parent.parent / "lentplaces"

STATEMENTS = (
    ast.Assign, ast.AugAssign, ast.If, ast.While, ast.For, ast.Return, ast.Break, ast.Continue, ast.Pass,
    ast.Raise, ast.Try, ast.FunctionDef, ast.ClassDef, ast.ImportFrom, ast.Expr,
)
NOT_WRITTEN = (
    ast.Set, ast.SetComp, ast.DictComp, ast.GeneratorExp, ast.NamedExpr, ast.Starred, ast.Div, ast.Await,
    ast.Yield, ast.YieldFrom, ast.MatMult, ast.AnnAssign,
)
BUILT_IN = set(
    "len range enumerate zip min max sum abs sorted reversed int str bool list tuple dict set frozenset"
    " isinstance ord repr any all divmod Exception ValueError KeyError IndexError".split()
)
BARRED_NAMES = set(
    "register mro elements open input version_info with_traceback add_note attrgetter breakpoint builtins"
    " compile copyright credits delattr dir eval exec exit gc getattr globals hasattr help id importlib"
    " license locals methodcaller os quit setattr super type vars sys hash next map filter iter bytes object"
    " format chr print float slice property round pow bin hex oct callable memoryview".split()
)
BARRED_WORDS = re.compile(
    r"\b(type|typing|typing_extensions|enum|Enum|IntEnum|StrEnum|Flag|IntFlag|Generic|Protocol|ABC|ABCMeta"
    r"|namedtuple|NamedTuple|TypedDict|TYPE_CHECKING|abstractmethod)\b|dataclass|overload|contextmanager"
)
OWN_METHODS = set(
    "append clear copy count endswith extend find get index insert isalnum isalpha isdigit islower isspace"
    " isupper items join keys ljust lower lstrip partition pop remove replace reverse rfind rjust rpartition"
    " rsplit rstrip setdefault split splitlines startswith strip update upper values zfill bit_length".split()
)


def all_files():
    return sorted(path for path in FOLDER.rglob("*") if path.is_file() and "__pycache__" not in path.parts)


def each():
    texts = [(path, path.read_text(encoding="utf-8")) for path in all_files()]
    return [(path, text, ast.parse(text)) for path, text in texts]


def names_of(tree):
    """Every name that the file binds or reads, but not what stands behind a dot."""
    for node in ast.walk(tree):
        if isinstance(node, ast.Name):
            yield node.id
        elif isinstance(node, ast.arg):
            yield node.arg
        elif isinstance(node, (ast.FunctionDef, ast.ClassDef)):
            yield node.name


class Language(unittest.TestCase):
    def test_files(self):
        self.assertTrue((FOLDER / "__init__.py").is_file())
        for path in all_files():
            self.assertRegex(path.name, r"^(__init__|[a-z][a-z0-9_]*)\.py$")
            self.assertEqual(path.parent, FOLDER)

    def test_signs_and_sizes(self):
        for path, text, tree in each():
            with self.subTest(path.name):
                self.assertRegex(text, r"\A[ -~\n]*\Z")
                lines = text.split("\n")
                self.assertLess(len(lines), 400)
                self.assertLessEqual(max(len(line) for line in lines), 120)
                self.assertIsNone(BARRED_WORDS.search(text))
                for node in ast.walk(tree):
                    if isinstance(node, ast.FunctionDef):
                        self.assertLessEqual(node.end_lineno - node.lineno + 1, 40, node.name)

    def test_statements(self):
        for path, text, tree in each():
            with self.subTest(path.name):
                for node in ast.walk(tree):
                    if isinstance(node, ast.stmt):
                        self.assertIsInstance(node, STATEMENTS, ast.dump(node))
                    if isinstance(node, ast.Assign):
                        self.assertEqual(len(node.targets), 1)
                        self.assertNotIsInstance(node.targets[0], (ast.Tuple, ast.List))
                    if isinstance(node, (ast.While, ast.For)):
                        self.assertEqual(node.orelse, [])
                for node in [inner for inner in ast.walk(tree) if isinstance(inner, ast.Expr)]:
                    if node is not tree.body[0]:
                        self.assertIsInstance(node.value, ast.Call)

    def test_expressions(self):
        for path, text, tree in each():
            with self.subTest(path.name):
                for node in ast.walk(tree):
                    self.assertNotIsInstance(node, NOT_WRITTEN)
                    if isinstance(node, ast.Constant):
                        self.assertIn(type(node.value), (int, str, bool, type(None)))
                    if isinstance(node, ast.ListComp):
                        self.assertEqual(len(node.generators), 1)
                        self.assertLessEqual(len(node.generators[0].ifs), 1)
                    if isinstance(node, ast.arguments):
                        self.assertEqual([node.vararg, node.kwarg, node.kwonlyargs], [None, None, []])
                    if isinstance(node, (ast.FunctionDef, ast.ClassDef)):
                        self.assertEqual(node.decorator_list, [])

    def test_names(self):
        for path, text, tree in each():
            with self.subTest(path.name):
                for name in names_of(tree):
                    self.assertNotIn(name, BARRED_NAMES)
                    self.assertTrue(name == "__init__" or not name.startswith("_"), name)
                bound = [
                    node.id for node in ast.walk(tree)
                    if isinstance(node, ast.Name) and isinstance(node.ctx, ast.Store)
                ] + [node.arg for node in ast.walk(tree) if isinstance(node, ast.arg)]
                imported = [name.name for node in tree.body if isinstance(node, ast.ImportFrom) for name in node.names]
                classes = [node.name for node in tree.body if isinstance(node, ast.ClassDef)]
                self.assertEqual(set(bound) & (BUILT_IN | set(imported) | set(classes)), set())

    def test_top_names_are_bound_once(self):
        for path, text, tree in each():
            with self.subTest(path.name):
                bound = []
                for node in tree.body:
                    if isinstance(node, ast.ImportFrom):
                        bound += [name.name for name in node.names]
                    elif isinstance(node, ast.Assign):
                        bound.append(node.targets[0].id)
                    elif isinstance(node, (ast.FunctionDef, ast.ClassDef)):
                        bound.append(node.name)
                self.assertEqual(len(bound), len(set(bound)))

    def test_imports(self):
        drawn = {}
        for path, text, tree in each():
            with self.subTest(path.name):
                drawn[path.stem] = []
                for node in ast.walk(tree):
                    if isinstance(node, ast.ImportFrom):
                        self.assertIn(node, tree.body)
                        self.assertRegex(node.module, r"^lentplaces\.[a-z]+$")
                        source = ast.parse((FOLDER / (node.module.split(".")[1] + ".py")).read_text())
                        own = [getattr(inner, "name", None) for inner in source.body]
                        own += [inner.targets[0].id for inner in source.body if isinstance(inner, ast.Assign)]
                        for name in node.names:
                            self.assertIsNone(name.asname)
                            self.assertIn(name.name, own)
                        drawn[path.stem].append(node.module.split(".")[1])
        while drawn:
            settled = [name for name in drawn if not set(drawn[name]) & set(drawn)]
            self.assertTrue(settled, "files draw from one another: %s" % sorted(drawn))
            for name in settled:
                del drawn[name]

    def test_methods_and_values_of_objects(self):
        methods, values = set(), set()
        for path, text, tree in each():
            with self.subTest(path.name):
                for node in ast.walk(tree):
                    if isinstance(node, ast.ClassDef):
                        self.assertTrue(all(isinstance(inner, ast.FunctionDef) for inner in node.body))
                        methods |= {inner.name for inner in node.body}
                    elif isinstance(node, ast.Attribute) and isinstance(node.ctx, ast.Store):
                        self.assertIsInstance(node.value, ast.Name)
                        values.add(node.attr)
        self.assertEqual(methods & values, set())
        pythons = set(dir(int) + dir(str) + dir(list) + dir(dict) + dir(set) + dir(bytes)) - {"__init__"}
        self.assertEqual((methods | values) & pythons, set())
        for path, text, tree in each():
            with self.subTest(path.name):
                for node in ast.walk(tree):
                    if isinstance(node, ast.Attribute):
                        self.assertIn(node.attr, methods | values | OWN_METHODS)


if __name__ == "__main__":
    unittest.main()

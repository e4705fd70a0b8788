"""The package's files, held to the rules of the language that can be seen in them."""

import ast
import builtins
import re
import unittest
from pathlib import Path

ROOT = Path(__file__).resolve().parent.parent
PACKAGE = ROOT / "reelcutdesk"
FILES = sorted(PACKAGE.glob("**/*.py"))

BUILTINS = set("""len range enumerate zip min max sum abs sorted reversed int str bool list tuple dict set frozenset
    isinstance ord repr any all divmod Exception ValueError TypeError KeyError IndexError LookupError
    ZeroDivisionError ArithmeticError OverflowError RuntimeError NotImplementedError AttributeError
    StopIteration""".split())
METHODS = set("""append clear copy count endswith extend find get index insert isalnum isalpha isdigit islower isspace
    isupper items join keys ljust lower lstrip partition pop remove replace reverse rfind rjust rpartition rsplit
    rstrip setdefault split splitlines startswith strip update upper values zfill bit_length""".split())
STATEMENTS = (ast.Assign, ast.AugAssign, ast.If, ast.While, ast.For, ast.Return, ast.Break, ast.Continue, ast.Pass,
              ast.Raise, ast.Try, ast.Expr, ast.FunctionDef, ast.ClassDef, ast.ImportFrom)
EXPRESSIONS = (ast.Constant, ast.List, ast.Tuple, ast.Dict, ast.BinOp, ast.UnaryOp, ast.BoolOp, ast.Compare,
               ast.IfExp, ast.Call, ast.Attribute, ast.Subscript, ast.Slice, ast.ListComp, ast.Name)
WORDS = """type typing typing_extensions enum Enum IntEnum StrEnum Flag IntFlag Generic Protocol ABC ABCMeta namedtuple
    NamedTuple TypedDict TYPE_CHECKING abstractmethod""".split()
NOT_NAMES = set("""register mro elements open input version_info with_traceback add_note attrgetter breakpoint builtins
    compile copyright credits delattr dir eval exec exit gc getattr globals hasattr help id importlib license locals
    methodcaller os quit setattr super type vars sys args encode format format_map""".split())
OWN_VALUES = set(dir(str) + dir(int) + dir(list) + dir(dict) + dir(set) + dir(bytes))


def bound_names(tree):
    """Every name that a function takes or gives a value."""
    names = set()
    for node in ast.walk(tree):
        if isinstance(node, ast.arg):
            names.add(node.arg)
        elif isinstance(node, ast.Name) and isinstance(node.ctx, ast.Store):
            names.add(node.id)
        elif isinstance(node, ast.ExceptHandler) and node.name:
            names.add(node.name)
    return names


class Language(unittest.TestCase):
    def each(self):
        for path in FILES:
            text = path.read_text(encoding="utf-8")
            yield path, text, ast.parse(text)

    def test_the_package(self):
        self.assertTrue((PACKAGE / "__init__.py").is_file())
        for path in PACKAGE.glob("**/*"):
            if "__pycache__" not in path.parts:
                self.assertEqual(path.suffix, ".py")
                self.assertRegex(path.stem, r"^(__init__|[a-z][a-z0-9_]*)$")
                self.assertNotIn(path.stem, dir(builtins))
                self.assertFalse(path.stem.startswith("test"))

    def test_signs_and_sizes(self):
        for _, text, tree in self.each():
            self.assertRegex(text, r"\A[\n -~]*\Z")
            lines = text.split("\n")
            self.assertLessEqual(len(lines), 400)
            self.assertLessEqual(max(len(line) for line in lines), 120)
            for node in ast.walk(tree):
                if isinstance(node, ast.FunctionDef):
                    self.assertLessEqual(node.end_lineno - node.lineno + 1, 40, node.name)

    def test_words(self):
        for _, text, _ in self.each():
            for word in WORDS:
                self.assertIsNone(re.search(rf"\b{word}\b", text), word)
            self.assertNotRegex(text, "dataclass|overload|contextmanager")

    def test_top(self):
        for _, _, tree in self.each():
            self.assertIsNotNone(ast.get_docstring(tree))
            seen = []
            for node in tree.body[1:]:
                self.assertIsInstance(node, (ast.ImportFrom, ast.FunctionDef, ast.ClassDef, ast.Assign))
                if isinstance(node, ast.Assign):
                    ast.literal_eval(node.value)
                    seen.append(node.targets[0].id)
                elif isinstance(node, ast.ImportFrom):
                    seen += [alias.name for alias in node.names]
                else:
                    seen.append(node.name)
            self.assertEqual(len(seen), len(set(seen)))

    def test_imports(self):
        drawn = {}
        for path, _, tree in self.each():
            drawn[path.stem] = set()
            for node in ast.walk(tree):
                if isinstance(node, ast.ImportFrom):
                    self.assertEqual(node.level, 0)
                    file = re.fullmatch(r"reelcutdesk\.(\w+)", node.module).group(1)
                    drawn[path.stem].add(file)
                    tops = ast.parse((PACKAGE / (file + ".py")).read_text()).body
                    own = {one.name for one in tops if isinstance(one, (ast.FunctionDef, ast.ClassDef))}
                    own |= {one.targets[0].id for one in tops if isinstance(one, ast.Assign)}
                    for alias in node.names:
                        self.assertIn(alias.name, own)
                        self.assertIsNone(alias.asname)
        while drawn:
            free = [stem for stem, files in drawn.items() if not files & set(drawn)]
            self.assertTrue(free, "files draw from one another")
            for stem in free:
                del drawn[stem]

    def test_statements_and_expressions(self):
        for _, _, tree in self.each():
            for node in ast.walk(ast.Module(tree.body[1:], [])):
                if isinstance(node, ast.stmt):
                    self.assertIsInstance(node, STATEMENTS)
                if isinstance(node, ast.expr):
                    self.assertIsInstance(node, EXPRESSIONS)
                if isinstance(node, ast.Expr):
                    self.assertIsInstance(node.value, ast.Call)
                if isinstance(node, ast.Assign):
                    self.assertEqual(len(node.targets), 1)
                    self.assertNotIsInstance(node.targets[0], ast.Tuple)
                if isinstance(node, (ast.For, ast.While)):
                    self.assertEqual(node.orelse, [])
                if isinstance(node, ast.ListComp):
                    self.assertEqual(len(node.generators), 1)
                    self.assertLessEqual(len(node.generators[0].ifs), 1)
                if isinstance(node, ast.BinOp):
                    self.assertNotIsInstance(node.op, (ast.Div, ast.MatMult, ast.Pow))
                if isinstance(node, ast.Compare) and isinstance(node.ops[0], (ast.Is, ast.IsNot)):
                    self.assertIn(node.comparators[0].value, (None, True, False))
                if isinstance(node, ast.Constant):
                    self.assertIsInstance(node.value, (int, str, type(None)))

    def test_functions_and_classes(self):
        for _, _, tree in self.each():
            for node in ast.walk(tree):
                if isinstance(node, ast.FunctionDef):
                    taken = node.args
                    self.assertEqual((node.decorator_list, taken.kwonlyargs, taken.vararg, taken.kwarg, node.returns),
                                     ([], [], None, None, None))
                    self.assertTrue(all(arg.annotation is None for arg in taken.args))
                if isinstance(node, ast.ClassDef):
                    self.assertLessEqual(len(node.bases), 1)
                    self.assertTrue(all(isinstance(one, (ast.FunctionDef, ast.Pass)) for one in node.body))

    def test_names(self):
        for _, _, tree in self.each():
            tops = [one for one in tree.body if isinstance(one, (ast.FunctionDef, ast.ClassDef))]
            classes = {one.name for one in tops if isinstance(one, ast.ClassDef)}
            imports = {alias.name for one in tree.body if isinstance(one, ast.ImportFrom) for alias in one.names}
            for top in tops:
                self.assertNotIn(top.name, dir(builtins))
                for name in bound_names(top):
                    self.assertNotIn(name, classes | imports | set(dir(builtins)) | NOT_NAMES)
                    self.assertFalse(name.startswith("_"))
            for node in ast.walk(tree):
                if isinstance(node, ast.Name) and node.id in dir(builtins):
                    self.assertIn(node.id, BUILTINS)

    def test_attributes(self):
        for _, _, tree in self.each():
            called = [id(node.func) for node in ast.walk(tree) if isinstance(node, ast.Call)]
            for node in ast.walk(tree):
                if isinstance(node, ast.Attribute):
                    self.assertNotIn(node.attr, NOT_NAMES)
                    if id(node) in called:
                        self.assertIn(node.attr, METHODS)
                    else:
                        self.assertNotIn(node.attr, OWN_VALUES)

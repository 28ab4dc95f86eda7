"""The package's files keep to the small part of Python, as far as a reading of their form can tell."""

import ast
import builtins
import pathlib
import re
import unittest

PACKAGE = pathlib.Path(__file__).resolve().parent.parent / "oftentogetherdesk"

STATEMENTS = (ast.FunctionDef, ast.ClassDef, ast.ImportFrom, ast.Assign, ast.AugAssign, ast.If, ast.While, ast.For,
              ast.Return, ast.Break, ast.Continue, ast.Pass, ast.Raise, ast.Try, ast.Expr)
EXPRESSIONS = (ast.Constant, ast.List, ast.Tuple, ast.Dict, ast.Name, ast.Attribute, ast.Subscript, ast.Slice,
               ast.BinOp, ast.UnaryOp, ast.BoolOp, ast.Compare, ast.IfExp, ast.Call, ast.ListComp, ast.Lambda,
               ast.JoinedStr, ast.FormattedValue)
OWN_NAMES = set("""len range enumerate zip min max sum abs sorted reversed int str bool list tuple dict set isinstance
    ord repr any all divmod Exception ValueError TypeError KeyError IndexError LookupError ZeroDivisionError
    ArithmeticError OverflowError RuntimeError NotImplementedError AttributeError StopIteration""".split())
OWN_METHODS = set("""append clear copy count endswith extend find get index insert isalnum isalpha isdigit islower
    isspace isupper items join keys ljust lower lstrip partition pop remove replace reverse rfind rjust rpartition
    rsplit rstrip setdefault split splitlines startswith strip update upper values zfill bit_length""".split())
UNSAID = re.compile(r"\b(type|typing|typing_extensions|enum|Enum|IntEnum|StrEnum|Flag|IntFlag|Generic|Protocol|ABC"
                    r"|ABCMeta|namedtuple|NamedTuple|TypedDict|TYPE_CHECKING|abstractmethod)\b"
                    r"|dataclass|overload|contextmanager")
PLAIN_NAME = re.compile(r"[A-Za-z][A-Za-z0-9_]*\Z")


def sources():
    return [(path, path.read_text(encoding="utf-8")) for path in sorted(PACKAGE.glob("*.py"))]


def nodes(text):
    return list(ast.walk(ast.parse(text)))


def bound_names(text):
    found = []
    for node in nodes(text):
        if isinstance(node, (ast.FunctionDef, ast.ClassDef)):
            found.append(node.name)
        elif isinstance(node, ast.arg):
            found.append(node.arg)
        elif isinstance(node, ast.Name) and isinstance(node.ctx, ast.Store):
            found.append(node.id)
        elif isinstance(node, ast.alias):
            found.append(node.asname or node.name)
    return found


class Language(unittest.TestCase):
    def test_files(self):
        names = [path.name for path in PACKAGE.iterdir() if path.name != "__pycache__"]
        self.assertIn("__init__.py", names)
        self.assertIn("desk.py", names)
        for name in names:
            self.assertRegex(name, r"\A(__init__|[a-z][a-z0-9_]*)\.py\Z")
            self.assertNotIn(name[:-3], dir(builtins))

    def test_signs_and_size(self):
        for path, text in sources():
            with self.subTest(file=path.name):
                self.assertRegex(text, r"\A[\n -~]*\Z")
                self.assertIsNone(UNSAID.search(text))
                rows = text.splitlines()
                self.assertLessEqual(len(rows), 400)
                self.assertLessEqual(max(len(row) for row in rows), 120)
                for node in nodes(text):
                    if isinstance(node, ast.FunctionDef):
                        self.assertLessEqual(node.end_lineno - node.lineno + 1, 40, node.name)

    def test_forms(self):
        for path, text in sources():
            with self.subTest(file=path.name):
                for node in nodes(text):
                    if isinstance(node, ast.stmt):
                        self.assertIsInstance(node, STATEMENTS, ast.dump(node))
                    if isinstance(node, ast.expr):
                        self.assertIsInstance(node, EXPRESSIONS, ast.dump(node))
                    if isinstance(node, (ast.FunctionDef, ast.ClassDef)):
                        self.assertEqual(node.decorator_list, [])
                    if isinstance(node, (ast.For, ast.While)):
                        self.assertEqual(node.orelse, [])
                    if isinstance(node, ast.Assign):
                        self.assertEqual(len(node.targets), 1)
                    if isinstance(node, ast.BinOp):
                        self.assertNotIsInstance(node.op, (ast.Div, ast.MatMult))
                    if isinstance(node, ast.Constant):
                        self.assertIn(type(node.value), (int, str, bool, type(None)))

    def test_narrow_forms(self):
        for path, text in sources():
            with self.subTest(file=path.name):
                for node in nodes(text):
                    if isinstance(node, ast.BinOp):
                        self.assertNotIsInstance(node.op, ast.Pow)
                    if isinstance(node, ast.Constant) and isinstance(node.value, str):
                        self.assertNotIn("%", node.value)
                    if isinstance(node, ast.Compare):
                        for operator, other in zip(node.ops, node.comparators):
                            if isinstance(operator, (ast.Is, ast.IsNot)):
                                self.assertIn(getattr(other, "value", 0), (None, True, False))
                    if isinstance(node, ast.ListComp):
                        self.assertEqual(len(node.generators), 1)
                        self.assertLessEqual(len(node.generators[0].ifs), 1)
                    if isinstance(node, ast.arguments):
                        self.assertEqual((node.vararg, node.kwarg, node.kwonlyargs, node.posonlyargs),
                                         (None, None, [], []))
                    if isinstance(node, ast.arg):
                        self.assertIsNone(node.annotation)
                    if isinstance(node, ast.FunctionDef):
                        self.assertIsNone(node.returns)
                    if isinstance(node, ast.keyword):
                        self.assertIn(node.arg, ("key", "reverse", "default", "start", "strict"))

    def test_top_of_files(self):
        for path, text in sources():
            with self.subTest(file=path.name):
                bound = []
                for node in ast.parse(text).body:
                    self.assertIsInstance(node, (ast.Expr, ast.ImportFrom, ast.FunctionDef, ast.ClassDef, ast.Assign))
                    if isinstance(node, ast.Assign):
                        # No list or dict within another, and nothing worked out.
                        ast.literal_eval(node.value)
                        inner = list(ast.walk(node.value))[1:]
                        self.assertFalse([one for one in inner if isinstance(one, (ast.List, ast.Dict))])
                        bound.append(node.targets[0].id)
                    elif isinstance(node, ast.ImportFrom):
                        bound += [one.name for one in node.names]
                    elif isinstance(node, ast.Expr):
                        self.assertIsInstance(node.value, ast.Constant)
                    else:
                        bound.append(node.name)
                self.assertEqual(len(bound), len(set(bound)))

    def test_imports_name_what_the_file_defines(self):
        defined = {path.stem: [name for node in ast.parse(text).body if not isinstance(node, ast.ImportFrom)
                               for name in bound_names(ast.unparse(node))] for path, text in sources()}
        drawn = {path.stem: [] for path, text in sources()}
        for path, text in sources():
            for node in ast.parse(text).body:
                if isinstance(node, ast.ImportFrom):
                    source = node.module.split(".")[1]
                    drawn[path.stem].append(source)
                    for one in node.names:
                        self.assertIsNone(one.asname)
                        self.assertIn(one.name, defined[source])
        # Files that draw only from files already taken off, until none is left: so none goes round.
        while drawn:
            free = [stem for stem in drawn if not [one for one in drawn[stem] if one in drawn]]
            self.assertTrue(free, drawn)
            for stem in free:
                drawn.pop(stem)

    def test_imports(self):
        for path, text in sources():
            with self.subTest(file=path.name):
                for node in nodes(text):
                    if isinstance(node, ast.ImportFrom):
                        self.assertEqual(node.level, 0)
                        self.assertRegex(node.module, r"\Aoftentogetherdesk\.[a-z][a-z0-9_]*\Z")
                        self.assertNotIn("*", [one.name for one in node.names])

    def test_names(self):
        for path, text in sources():
            with self.subTest(file=path.name):
                bound = bound_names(text)
                for name in bound:
                    self.assertTrue(PLAIN_NAME.match(name) or name == "__init__", name)
                    self.assertNotIn(name, dir(builtins))
                for node in nodes(text):
                    if isinstance(node, ast.Name) and isinstance(node.ctx, ast.Load):
                        self.assertTrue(node.id in bound or node.id in OWN_NAMES, node.id)

    def test_methods(self):
        own = [name for path, text in sources() for name in bound_names(text)]
        for path, text in sources():
            with self.subTest(file=path.name):
                for node in nodes(text):
                    if isinstance(node, ast.Call) and isinstance(node.func, ast.Attribute):
                        self.assertTrue(node.func.attr in OWN_METHODS or node.func.attr in own, node.func.attr)


if __name__ == "__main__":
    unittest.main()

"""The form of the package's files: what of the language's rules a look at the text can see."""

import ast
import builtins
import pathlib
import re
import unittest

PACKAGE = pathlib.Path(__file__).resolve().parent.parent / "channelway"
FILES = sorted(path for path in PACKAGE.rglob("*") if "__pycache__" not in path.parts)
NODES = """Module Expr Constant FunctionDef ClassDef arguments arg Assign AugAssign If While For Return Break
Continue Pass Raise Try ExceptHandler Call Name Attribute Subscript Slice List Tuple Dict Load Store BinOp UnaryOp
BoolOp Compare IfExp ListComp comprehension JoinedStr FormattedValue Lambda ImportFrom alias And Or Not USub Add Sub
Mult FloorDiv Mod Pow BitAnd BitOr BitXor LShift RShift Invert Eq NotEq Lt LtE Gt GtE Is IsNot In NotIn""".split()
OWN = """len range enumerate zip min max sum abs sorted reversed int str bool list tuple dict set frozenset isinstance
ord repr any all divmod Exception ValueError TypeError KeyError IndexError LookupError ZeroDivisionError
ArithmeticError OverflowError RuntimeError NotImplementedError AttributeError StopIteration""".split()
METHODS = """append clear copy count endswith extend find get index insert isalnum isalpha isdigit islower isspace
isupper items join keys ljust lower lstrip partition pop remove replace reverse rfind rjust rpartition rsplit rstrip
setdefault split splitlines startswith strip update upper values zfill bit_length""".split()
WORDS = """type typing typing_extensions enum Enum IntEnum StrEnum Flag IntFlag Generic Protocol ABC ABCMeta
namedtuple NamedTuple TypedDict TYPE_CHECKING abstractmethod""".split()


class Form(unittest.TestCase):
    def each(self):
        texts = [path.read_text(encoding="utf-8") for path in FILES]
        return [(text, ast.parse(text)) for text in texts]

    def test_files(self):
        self.assertEqual([path.name for path in FILES], ["__init__.py", "survey.py"])

    def test_signs_and_size(self):
        for text, tree in self.each():
            self.assertIsNone(re.search(r"[^ -~\n]", text))
            lines = text.split("\n")
            self.assertLessEqual(len(lines), 400)
            self.assertLessEqual(max(len(line) for line in lines), 120)
            for node in ast.walk(tree):
                if isinstance(node, ast.FunctionDef):
                    self.assertLessEqual(node.end_lineno - node.lineno + 1, 40, node.name)

    def test_words(self):
        for text, tree in self.each():
            found = set(re.findall(r"\w+", text))
            self.assertEqual(found & set(WORDS), set())
            self.assertIsNone(re.search("dataclass|overload|contextmanager", text))

    def test_statements_and_expressions(self):
        for text, tree in self.each():
            kinds = {type(node).__name__ for node in ast.walk(tree)}
            self.assertEqual(kinds - set(NODES), set())
            for node in ast.walk(tree):
                if isinstance(node, ast.Assign):
                    self.assertEqual(len(node.targets), 1)
                if isinstance(node, (ast.For, ast.While)):
                    self.assertEqual(node.orelse, [])
                if isinstance(node, ast.ListComp):
                    self.assertEqual(len(node.generators), 1)

    def test_names(self):
        every = set(dir(builtins))
        for text, tree in self.each():
            names = [node for node in ast.walk(tree) if isinstance(node, ast.Name)]
            self.assertEqual({node.id for node in names} & every - set(OWN), set())
            made = {node.id for node in names if isinstance(node.ctx, ast.Store)}
            made |= {node.arg for node in ast.walk(tree) if isinstance(node, ast.arg)}
            made |= {node.name for node in ast.walk(tree) if isinstance(node, (ast.FunctionDef, ast.ClassDef))}
            self.assertEqual(made & every, set())
            self.assertEqual({name for name in made if name.startswith("_")} - {"__init__"}, set())

    def test_methods(self):
        python_own = {name for kind in (str, int, list, dict, set, bytes, tuple) for name in dir(kind)}
        for text, tree in self.each():
            used = {node.attr for node in ast.walk(tree) if isinstance(node, ast.Attribute)}
            self.assertEqual(used & python_own - set(METHODS), set())

    def test_no_call_leads_back_into_itself(self):
        """A function names only functions above it, so calls can't lie deep within one another."""
        for text, tree in self.each():
            above = set()
            defs = [node for node in tree.body if isinstance(node, ast.FunctionDef)]
            every = {node.name for node in defs}
            for node in defs:
                named = {part.id for part in ast.walk(node) if isinstance(part, ast.Name)} & every
                self.assertEqual(named - above, set(), node.name)
                above.add(node.name)

    def test_each_name_once(self):
        for text, tree in self.each():
            made = [node.name for node in tree.body if isinstance(node, (ast.FunctionDef, ast.ClassDef))]
            made += [node.targets[0].id for node in tree.body if isinstance(node, ast.Assign)]
            self.assertEqual(len(made), len(set(made)))
            names = [node for node in ast.walk(tree) if isinstance(node, ast.Name)]
            inner = {node.id for node in names if isinstance(node.ctx, ast.Store)}
            inner |= {node.arg for node in ast.walk(tree) if isinstance(node, ast.arg)}
            classes = {node.name for node in tree.body if isinstance(node, ast.ClassDef)}
            self.assertEqual(inner & classes, set())

    def test_ranges_and_their_like_are_walked_at_once(self):
        walked = ("zip", "enumerate", "reversed", "range")
        for text, tree in self.each():
            loops = [node.iter for node in ast.walk(tree) if isinstance(node, (ast.For, ast.comprehension))]
            for node in ast.walk(tree):
                if isinstance(node, ast.Call) and isinstance(node.func, ast.Name) and node.func.id in walked:
                    self.assertIn(node, loops)

    def test_nothing_is_imported(self):
        for text, tree in self.each():
            kinds = [node for node in ast.walk(tree) if isinstance(node, (ast.Import, ast.ImportFrom))]
            self.assertEqual(kinds, [])


if __name__ == "__main__":
    unittest.main()

"""The form of the package's files: what of the language's rules can be seen by walking the code."""

import ast
import builtins
import os
import re
import unittest

PACKAGE = os.path.join(os.path.dirname(os.path.abspath(__file__)), os.pardir, "trustvote")

OWN_NAMES = """len range enumerate zip min max sum abs sorted reversed int str bool list tuple dict set frozenset
isinstance ord repr any all divmod Exception ValueError TypeError KeyError IndexError LookupError ZeroDivisionError
ArithmeticError OverflowError RuntimeError NotImplementedError AttributeError StopIteration""".split()

METHODS = """append clear copy count endswith extend find get index insert isalnum isalpha isdigit islower isspace
isupper items join keys ljust lower lstrip partition pop remove replace reverse rfind rjust rpartition rsplit rstrip
setdefault split splitlines startswith strip update upper values zfill bit_length""".split()

WORDS_LEFT_OUT = """type typing typing_extensions enum Enum IntEnum StrEnum Flag IntFlag Generic Protocol ABC ABCMeta
namedtuple NamedTuple TypedDict TYPE_CHECKING abstractmethod""".split()

NODES = """Module Expr Constant ImportFrom alias FunctionDef ClassDef arguments arg Assign AugAssign If While For
Return Break Continue Pass Raise Try ExceptHandler Name Load Store Attribute Subscript Slice Call keyword List Tuple
Dict ListComp comprehension BinOp Add Sub Mult FloorDiv Mod Pow BitAnd BitOr BitXor LShift RShift Invert UnaryOp USub
Not BoolOp And Or Compare Eq NotEq Lt LtE Gt GtE Is IsNot In NotIn IfExp Lambda JoinedStr FormattedValue""".split()


def sources():
    """The package's files: each one's name and text."""
    found = []
    for name in sorted(os.listdir(PACKAGE)):
        if name != "__pycache__":
            with open(os.path.join(PACKAGE, name), encoding="utf-8") as file:
                found.append((name, file.read()))
    return found


def nodes(kinds):
    """All parts of the package's code that are of these kinds, each with its file's name."""
    return [
        (name, node) for name, text in sources() for node in ast.walk(ast.parse(text)) if isinstance(node, kinds)
    ]


class Form(unittest.TestCase):
    def test_files(self):
        self.assertIn("__init__.py", [name for name, text in sources()])
        for name, text in sources():
            self.assertRegex(name, r"\A(__init__|[a-z][a-z0-9_]*)\.py\Z")
            self.assertRegex(text, r"\A[ -~\n]*\Z", name)

    def test_size(self):
        for name, text in sources():
            rows = text.split("\n")
            self.assertLessEqual(len(rows), 400, name)
            self.assertLessEqual(max(len(row) for row in rows), 120, name)
        for name, node in nodes(ast.FunctionDef):
            self.assertLessEqual(node.end_lineno - node.lineno + 1, 40, (name, node.name))

    def test_kinds_of_statements_and_expressions(self):
        for name, node in nodes(ast.AST):
            self.assertIn(type(node).__name__, NODES, (name, getattr(node, "lineno", 0)))
        for name, node in nodes(ast.Constant):
            self.assertIn(type(node.value), (int, str, bool, type(None)), (name, node.lineno))
        for name, node in nodes((ast.For, ast.While)):
            self.assertEqual(node.orelse, [], (name, node.lineno))

    def test_imports(self):
        for name, node in nodes(ast.ImportFrom):
            self.assertEqual(node.level, 0, (name, node.lineno))
            self.assertRegex(node.module, r"\Atrustvote\.", (name, node.lineno))

    def test_names(self):
        defined = set(OWN_NAMES) | {"self"}
        for name, node in nodes((ast.FunctionDef, ast.ClassDef, ast.arg, ast.alias, ast.Name)):
            if isinstance(node, ast.Name) and not isinstance(node.ctx, ast.Store):
                continue
            word = getattr(node, "name", None) or getattr(node, "arg", None) or getattr(node, "id", None)
            if word != "__init__":
                self.assertRegex(word, r"\A[A-Za-z][A-Za-z0-9_]*\Z", (name, word))
                self.assertNotIn(word, dir(builtins), (name, word))
            defined.add(word)
        for name, node in nodes(ast.Name):
            self.assertIn(node.id, defined, (name, node.lineno))

    def test_methods(self):
        own = {node.name for name, node in nodes(ast.FunctionDef)} | set(METHODS)
        for name, node in nodes(ast.Call):
            if isinstance(node.func, ast.Attribute):
                self.assertIn(node.func.attr, own, (name, node.lineno))

    def test_no_name_is_a_method_and_a_value(self):
        methods = {
            part.name for name, node in nodes(ast.ClassDef) for part in node.body if isinstance(part, ast.FunctionDef)
        }
        for name, node in nodes(ast.Attribute):
            if isinstance(node.ctx, ast.Store):
                self.assertNotIn(node.attr, methods, (name, node.lineno))

    def test_no_two_files_draw_from_one_another(self):
        draws = {name: set() for name, text in sources()}
        for name, node in nodes(ast.ImportFrom):
            draws[name].add(node.module.split(".")[1] + ".py")
        while draws:
            free = [name for name in draws if not draws[name] & set(draws)]
            self.assertNotEqual(free, [], draws)
            for name in free:
                draws.pop(name)

    def test_words_left_out(self):
        for name, text in sources():
            for word in re.findall(r"[A-Za-z_]+", text):
                self.assertNotIn(word, WORDS_LEFT_OUT, name)


if __name__ == "__main__":
    unittest.main()

"""What can be read off the package's files of the part of Python that they keep to."""

import ast
import builtins
import pathlib
import re
import unittest

PACKAGE = pathlib.Path(__file__).resolve().parent.parent / "rulesfound"

STATEMENTS = (ast.Assign, ast.AugAssign, ast.If, ast.While, ast.For, ast.Return, ast.Break, ast.Continue, ast.Pass,
              ast.Raise, ast.Try, ast.Expr, ast.FunctionDef, ast.ClassDef, ast.ImportFrom)
EXPRESSIONS = (ast.Constant, ast.Name, ast.List, ast.Tuple, ast.Dict, ast.BinOp, ast.UnaryOp, ast.BoolOp, ast.Compare,
               ast.IfExp, ast.Call, ast.Attribute, ast.Subscript, ast.Slice, ast.ListComp, ast.JoinedStr,
               ast.FormattedValue, ast.Lambda)
OWN_NAMES = set("""len range enumerate zip min max sum abs sorted reversed int str bool list tuple dict set frozenset
    isinstance ord repr any all divmod Exception ValueError TypeError KeyError IndexError LookupError
    ZeroDivisionError ArithmeticError OverflowError RuntimeError NotImplementedError AttributeError
    StopIteration""".split())
METHODS = set("""append clear copy count endswith extend find get index insert isalnum isalpha isdigit islower isspace
    isupper items join keys ljust lower lstrip partition pop remove replace reverse rfind rjust rpartition rsplit
    rstrip setdefault split splitlines startswith strip update upper values zfill bit_length""".split())
WORDS = """type typing typing_extensions enum Enum IntEnum StrEnum Flag IntFlag Generic Protocol ABC ABCMeta namedtuple
    NamedTuple TypedDict TYPE_CHECKING abstractmethod""".split()
PARTS = ("dataclass", "overload", "contextmanager")


def sources():
    return [(path, path.read_text("utf-8")) for path in sorted(PACKAGE.glob("*.py"))]


def nodes():
    for path, text in sources():
        for node in ast.walk(ast.parse(text)):
            yield f"{path.name}:{getattr(node, 'lineno', 0)}", node


def is_docstring(path, node):
    tree = ast.parse(path.read_text("utf-8"))
    return ast.dump(tree.body[0]) == ast.dump(node)


class Files(unittest.TestCase):
    def test_only_modules_lie_in_the_package(self):
        for path in PACKAGE.iterdir():
            if path.name != "__pycache__":
                self.assertRegex(path.name, r"^[a-z0-9_]+\.py$")
        self.assertTrue((PACKAGE / "__init__.py").exists())

    def test_sizes_and_signs(self):
        for path, text in sources():
            lines = text.split("\n")
            self.assertLessEqual(len(lines), 400, path.name)
            for number, line in enumerate(lines, 1):
                self.assertLessEqual(len(line), 120, f"{path.name}:{number}")
                self.assertTrue(all(" " <= sign <= "~" for sign in line), f"{path.name}:{number}")

    def test_words_that_stand_nowhere(self):
        for path, text in sources():
            words = set(re.findall(r"\w+", text))
            self.assertEqual(words & set(WORDS), set(), path.name)
            self.assertEqual([part for part in PARTS if part in text], [], path.name)

    def test_the_interface(self):
        tree = ast.parse((PACKAGE / "rings.py").read_text("utf-8"))
        found = [node for node in tree.body if isinstance(node, ast.FunctionDef) and node.name == "answers"]
        self.assertEqual([[part.arg for part in node.args.args] for node in found], [["calls"]])
        self.assertEqual(found[0].args.defaults, [])


class Code(unittest.TestCase):
    def test_statements_and_expressions(self):
        for place, node in nodes():
            if isinstance(node, ast.stmt):
                self.assertIsInstance(node, STATEMENTS, place)
            if isinstance(node, ast.expr):
                self.assertIsInstance(node, EXPRESSIONS, place)
            if isinstance(node, ast.Assign):
                self.assertEqual(len(node.targets), 1, place)
            if isinstance(node, (ast.For, ast.While)):
                self.assertEqual(node.orelse, [], place)
            if isinstance(node, ast.Constant):
                self.assertIsInstance(node.value, (int, str, bool, type(None)), place)
            if isinstance(node, (ast.Div, ast.MatMult)):
                self.fail(place)
            if isinstance(node, ast.ListComp):
                self.assertEqual(len(node.generators), 1, place)
                self.assertLessEqual(len(node.generators[0].ifs), 1, place)

    def test_a_text_by_itself_is_a_module_docstring(self):
        for path, text in sources():
            for node in ast.walk(ast.parse(text)):
                if isinstance(node, ast.Expr) and not isinstance(node.value, ast.Call):
                    self.assertTrue(is_docstring(path, node), f"{path.name}:{node.lineno}")

    def test_functions(self):
        for place, node in nodes():
            if isinstance(node, ast.FunctionDef):
                self.assertLessEqual(node.end_lineno - node.lineno + 1, 40, place)
                self.assertEqual(node.decorator_list, [], place)
                self.assertFalse(node.args.vararg or node.args.kwarg or node.args.kwonlyargs or node.args.posonlyargs,
                                 place)

    def test_imports(self):
        for place, node in nodes():
            if isinstance(node, ast.ImportFrom):
                self.assertEqual(node.level, 0, place)
                self.assertTrue(node.module.startswith("rulesfound."), place)
                self.assertTrue((PACKAGE / (node.module.split(".")[1] + ".py")).exists(), place)
                self.assertEqual([part for part in node.names if part.name == "*" or part.asname], [], place)

    def test_no_two_files_draw_from_one_another(self):
        draws = {path.stem: set() for path, text in sources()}
        for path, text in sources():
            for node in ast.walk(ast.parse(text)):
                if isinstance(node, ast.ImportFrom):
                    draws[path.stem].add(node.module.split(".")[1])
        while draws:
            ready = [stem for stem, others in draws.items() if not others & set(draws)]
            self.assertNotEqual(ready, [], draws)
            for stem in ready:
                del draws[stem]

    def test_names(self):
        own = set(dir(builtins))
        for place, node in nodes():
            if isinstance(node, ast.Name) and node.id in own:
                self.assertIn(node.id, OWN_NAMES, place)
                self.assertIsInstance(node.ctx, ast.Load, place)
            bound = node.arg if isinstance(node, ast.arg) else getattr(node, "id", getattr(node, "name", None))
            if isinstance(bound, str) and not isinstance(node, ast.Name) and bound != "__init__":
                self.assertNotIn(bound, own, place)
                self.assertFalse(bound.startswith("_"), place)

    def test_methods(self):
        for place, node in nodes():
            if isinstance(node, ast.Call) and isinstance(node.func, ast.Attribute):
                self.assertIn(node.func.attr, METHODS, place)


if __name__ == "__main__":
    unittest.main()

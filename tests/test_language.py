"""The package keeps to the small part of Python that it is to be written in, as far as its form shows."""

import ast
import builtins
import pathlib
import re
import unittest

PACKAGE = pathlib.Path(__file__).resolve().parent.parent / "signsearch"

ERRORS = {"Exception", "ValueError", "TypeError", "KeyError", "IndexError", "LookupError", "ZeroDivisionError",
          "ArithmeticError", "OverflowError", "RuntimeError", "NotImplementedError", "AttributeError", "StopIteration"}
OWN_NAMES = ERRORS | set("""len range enumerate zip min max sum abs sorted reversed int str bool list tuple dict set
    frozenset isinstance ord repr any all divmod True False None""".split())
STATEMENTS = (ast.Assign, ast.AugAssign, ast.If, ast.While, ast.For, ast.Return, ast.Break, ast.Continue, ast.Pass,
              ast.Raise, ast.Try, ast.Expr, ast.FunctionDef, ast.ClassDef, ast.ImportFrom)
BARRED = (ast.Set, ast.SetComp, ast.DictComp, ast.GeneratorExp, ast.NamedExpr, ast.Starred, ast.Div, ast.Yield,
          ast.YieldFrom, ast.Await, ast.MatMult)
METHODS = set("""append clear copy count endswith extend find get index insert isalnum isalpha isdigit islower isspace
    isupper items join keys ljust lower lstrip partition pop remove replace reverse rfind rjust rpartition rsplit
    rstrip setdefault split splitlines startswith strip update upper values zfill bit_length""".split())
WORDS = re.compile(r"\b(type|typing|typing_extensions|enum|Enum|IntEnum|StrEnum|Flag|IntFlag|Generic|Protocol|ABC|"
                   r"ABCMeta|namedtuple|NamedTuple|TypedDict|TYPE_CHECKING|abstractmethod)\b|"
                   r"dataclass|overload|contextmanager")
NO_VALUES = set("""items keys values pop update append clear extend insert remove reverse setdefault sort args encode
    format""".split())
NEVER = {"register", "mro", "elements", "open", "input", "version_info", "with_traceback", "add_note"}


def sources():
    return sorted(PACKAGE.rglob("*.py"))


def nodes_of(path):
    return list(ast.walk(ast.parse(path.read_text(encoding="ascii"))))


def sources_and_nodes():
    return [(path, nodes_of(path)) for path in sources()]


class LanguageTest(unittest.TestCase):
    def test_only_plain_files(self):
        for path in PACKAGE.rglob("*"):
            if "__pycache__" not in path.parts:
                self.assertRegex(path.name, r"^([a-z][a-z0-9_]*|__init__|__main__)\.py$")
                self.assertNotIn(path.stem, vars(builtins))

    def test_sizes_and_signs(self):
        for path in sources():
            text = path.read_text(encoding="ascii")
            lines = text.split("\n")
            self.assertLessEqual(len(lines), 400, path.name)
            self.assertLessEqual(max(len(line) for line in lines), 120, path.name)
            self.assertRegex(text, r"\A[ -~\n]*\Z", path.name)
            self.assertIsNone(WORDS.search(text), path.name)

    def test_functions(self):
        for path, nodes in sources_and_nodes():
            for node in nodes:
                if isinstance(node, ast.FunctionDef):
                    self.assertLessEqual(node.end_lineno - node.lineno + 1, 40, node.name)
                    self.assertEqual(node.decorator_list, [])
                    extras = (node.args.vararg, node.args.kwarg, node.args.kwonlyargs, node.args.posonlyargs)
                    self.assertEqual(extras, (None, None, [], []), node.name)

    def test_statements_and_expressions(self):
        for path, nodes in sources_and_nodes():
            for node in nodes:
                if isinstance(node, ast.stmt):
                    self.assertIsInstance(node, STATEMENTS)
                self.assertNotIsInstance(node, BARRED)
                if isinstance(node, ast.Assign):
                    self.assertEqual(len(node.targets), 1, node.lineno)
                if isinstance(node, (ast.For, ast.While)):
                    self.assertEqual(node.orelse, [], node.lineno)
                if isinstance(node, ast.ListComp):
                    self.assertEqual(len(node.generators), 1, node.lineno)
                    self.assertLessEqual(len(node.generators[0].ifs), 1, node.lineno)
                if isinstance(node, ast.Constant):
                    self.assertNotIsInstance(node.value, (float, complex, bytes), node.lineno)
                    self.assertNotIn("%", str(node.value), node.lineno)

    def test_names(self):
        for path, nodes in sources_and_nodes():
            bound = {node.id for node in nodes if isinstance(node, ast.Name) and isinstance(node.ctx, ast.Store)}
            bound |= {node.arg for node in nodes if isinstance(node, ast.arg)}
            bound |= {node.name for node in nodes if isinstance(node, (ast.FunctionDef, ast.ClassDef))}
            bound |= {alias.name for node in nodes if isinstance(node, ast.ImportFrom) for alias in node.names}
            for name in bound - {"__init__"}:
                self.assertRegex(name, "^[A-Za-z][A-Za-z0-9_]*$")
                self.assertNotIn(name, vars(builtins))
                self.assertNotIn(name, NEVER)
            used = {node.id for node in nodes if isinstance(node, ast.Name)}
            self.assertEqual(used - bound - OWN_NAMES, set())

    def test_attributes(self):
        own = set()
        for path in sources():
            for node in nodes_of(path):
                if isinstance(node, ast.ClassDef):
                    own |= {part.name for part in node.body if isinstance(part, ast.FunctionDef)}
                if isinstance(node, ast.Attribute) and isinstance(node.ctx, ast.Store):
                    own.add(node.attr)
        for path, nodes in sources_and_nodes():
            for node in nodes:
                if isinstance(node, ast.Attribute):
                    self.assertIn(node.attr, own | METHODS)
                    self.assertNotIn(node.attr, NEVER)

    def test_methods_and_values(self):
        methods = set()
        values = set()
        for path, nodes in sources_and_nodes():
            for node in nodes:
                if isinstance(node, ast.ClassDef):
                    methods |= {part.name for part in node.body if isinstance(part, ast.FunctionDef)}
                if isinstance(node, ast.Attribute) and isinstance(node.ctx, ast.Store):
                    values.add(node.attr)
        self.assertEqual(methods & values, set())
        self.assertEqual(values & NO_VALUES, set())

    def test_is_stands_beside_none_true_and_false(self):
        for path, nodes in sources_and_nodes():
            for node in nodes:
                if isinstance(node, ast.Compare) and isinstance(node.ops[0], (ast.Is, ast.IsNot)):
                    self.assertIsInstance(node.comparators[0], ast.Constant, node.lineno)
                    self.assertIn(node.comparators[0].value, (None, True, False), node.lineno)

    def test_no_two_files_draw_from_one_another(self):
        drawn = {}
        for path, nodes in sources_and_nodes():
            modules = [node.module for node in nodes if isinstance(node, ast.ImportFrom)]
            drawn["signsearch." + path.stem] = modules
        while drawn:
            free = [name for name, modules in drawn.items() if not any(module in drawn for module in modules)]
            self.assertNotEqual(free, [], drawn)
            for name in free:
                drawn.pop(name)

    def test_plain_values_at_the_top(self):
        plain = (ast.Constant, ast.Tuple, ast.List, ast.Dict, ast.UnaryOp, ast.USub, ast.Load)
        for path in sources():
            for statement in ast.parse(path.read_text(encoding="ascii")).body:
                if isinstance(statement, ast.Assign):
                    for node in ast.walk(statement.value):
                        self.assertIsInstance(node, plain, path.name)

    def test_imports(self):
        for path, nodes in sources_and_nodes():
            for node in nodes:
                if isinstance(node, ast.ImportFrom):
                    self.assertEqual(node.level, 0)
                    self.assertTrue(node.module.startswith("signsearch."), node.module)
                    target = PACKAGE / (node.module.partition(".")[2] + ".py")
                    for alias in node.names:
                        self.assertIsNone(alias.asname)
                        self.assertRegex(target.read_text(), rf"(?m)^((def|class) {alias.name}\b|{alias.name} = )")


if __name__ == "__main__":
    unittest.main()

"""The package keeps to the small part of Python that is asked for (rules L1 to L28, as far as a look can tell)."""

import ast
import builtins
import pathlib
import re
import unittest

PACKAGE = pathlib.Path(__file__).resolve().parent.parent / "groupstream"

STATEMENTS = (ast.Assign, ast.AugAssign, ast.If, ast.While, ast.For, ast.Return, ast.Break, ast.Continue, ast.Pass,
              ast.Raise, ast.Expr, ast.FunctionDef, ast.ClassDef, ast.ImportFrom)
EXPRESSIONS = (ast.BinOp, ast.UnaryOp, ast.BoolOp, ast.Compare, ast.IfExp, ast.Call, ast.Attribute, ast.Subscript,
               ast.Slice, ast.ListComp, ast.Name, ast.Constant, ast.List, ast.Tuple, ast.Dict, ast.Lambda)
OTHERS = (ast.Module, ast.arguments, ast.arg, ast.comprehension, ast.alias, ast.expr_context, ast.operator,
          ast.unaryop, ast.boolop, ast.cmpop, ast.keyword)
BUILT_IN = """len range enumerate zip min max sum abs sorted reversed int str bool list tuple dict set frozenset
isinstance ord repr any all divmod Exception ValueError TypeError KeyError IndexError LookupError ZeroDivisionError
ArithmeticError OverflowError RuntimeError NotImplementedError AttributeError StopIteration""".split()
METHODS = """append clear copy count endswith extend find get index insert isalnum isalpha isdigit islower isspace
isupper items join keys ljust lower lstrip partition pop remove replace reverse rfind rjust rpartition rsplit rstrip
setdefault split splitlines startswith strip update upper values zfill bit_length""".split()
BANNED_NAMES = """register mro elements open input version_info with_traceback add_note attrgetter breakpoint builtins
compile copyright credits delattr dir eval exec exit gc getattr globals hasattr help id importlib license locals
methodcaller os quit setattr super type vars sys""".split()
BANNED_WORDS = """type typing typing_extensions enum Enum IntEnum StrEnum Flag IntFlag Generic Protocol ABC ABCMeta
namedtuple NamedTuple TypedDict TYPE_CHECKING abstractmethod""".split()
BANNED_WITHIN = ("dataclass", "overload", "contextmanager")
WALKED_AT_ONCE = ("zip", "enumerate", "reversed", "range")
OF_PYTHONS_VALUES = {name for kind in (str, int, list, dict, set, bytes, tuple) for name in dir(kind)}


def files():
    return sorted(PACKAGE.glob("*.py"))


def trees():
    return [(path.name, ast.parse(path.read_text("utf-8"))) for path in files()]


def bound_names(tree):
    for node in ast.walk(tree):
        if isinstance(node, ast.Name) and isinstance(node.ctx, ast.Store):
            yield node.id
        if isinstance(node, ast.arg):
            yield node.arg


class Language(unittest.TestCase):
    def test_files_and_signs(self):
        self.assertTrue((PACKAGE / "__init__.py").exists())
        for path in PACKAGE.iterdir():
            if path.name == "__pycache__":
                continue
            self.assertRegex(path.name, r"^[a-z][a-z0-9_]*\.py$|^__init__\.py$")
            self.assertNotIn(path.stem, dir(builtins))
            text = path.read_text("utf-8")
            self.assertTrue(all(" " <= sign <= "~" or sign == "\n" for sign in text), path.name)
            rows = text.split("\n")
            self.assertLessEqual(len(rows), 400, path.name)
            self.assertLessEqual(max(len(row) for row in rows), 120, path.name)

    def test_words_that_stand_nowhere(self):
        for path in files():
            text = path.read_text("utf-8")
            words = re.findall(r"\w+", text)
            self.assertEqual([word for word in words if word in BANNED_WORDS], [], path.name)
            self.assertEqual([word for word in BANNED_WITHIN if word in text], [], path.name)

    def test_forms(self):
        for name, tree in trees():
            for node in ast.walk(tree):
                self.assertIsInstance(node, STATEMENTS + EXPRESSIONS + OTHERS, name)
                if isinstance(node, (ast.For, ast.While)):
                    self.assertEqual(node.orelse, [], name)
                if isinstance(node, ast.Assign):
                    self.assertEqual(len(node.targets), 1, name)
                    self.assertNotIsInstance(node.targets[0], (ast.Tuple, ast.List), name)
                if isinstance(node, (ast.Div, ast.MatMult, ast.Pow)):
                    self.fail(f"{name}: an operator that's not used here")
                if isinstance(node, ast.Constant):
                    self.assertIn(node.value.__class__, (int, str, bool, None.__class__), name)
                if isinstance(node, ast.ListComp):
                    self.assertEqual(len(node.generators), 1, name)
                    self.assertLessEqual(len(node.generators[0].ifs), 1, name)
                if isinstance(node, ast.Compare) and isinstance(node.ops[0], (ast.Is, ast.IsNot)):
                    self.assertIsInstance(node.comparators[0], ast.Constant, name)

    def test_functions_and_classes(self):
        for name, tree in trees():
            for node in ast.walk(tree):
                if isinstance(node, ast.FunctionDef):
                    self.assertLessEqual(node.end_lineno - node.lineno + 1, 40, node.name)
                    self.assertEqual(node.decorator_list, [], node.name)
                    self.assertIsNone(node.args.vararg or node.args.kwarg, node.name)
                    self.assertEqual(node.args.kwonlyargs + node.args.posonlyargs, [], node.name)
                if isinstance(node, ast.ClassDef):
                    self.assertIn(node, tree.body, name)
                    self.assertTrue(all(isinstance(entry, ast.FunctionDef) for entry in node.body), node.name)
                if isinstance(node, ast.Expr) and node is not tree.body[0]:
                    self.assertIsInstance(node.value, ast.Call, name)

    def test_tops(self):
        for name, tree in trees():
            tops = []
            for node in tree.body[1:]:
                self.assertIsInstance(node, (ast.ImportFrom, ast.Assign, ast.FunctionDef, ast.ClassDef), name)
                if isinstance(node, ast.Assign):
                    ast.literal_eval(node.value)
                    tops.append(node.targets[0].id)
                elif isinstance(node, ast.ImportFrom):
                    self.assertEqual(node.level, 0, name)
                    self.assertTrue(node.module.startswith("groupstream."), name)
                    self.assertTrue(all(alias.asname is None and alias.name != "*" for alias in node.names), name)
                    tops += [alias.name for alias in node.names]
                else:
                    tops.append(node.name)
            self.assertEqual(len(tops), len(set(tops)), name)

    def test_imports_come_from_the_file_that_defines_and_go_one_way(self):
        drawn = {}
        defined = {}
        for name, tree in trees():
            stem = name[:-3]
            drawn[stem] = []
            defined[stem] = [node.name for node in tree.body if isinstance(node, (ast.FunctionDef, ast.ClassDef))]
            defined[stem] += [node.targets[0].id for node in tree.body if isinstance(node, ast.Assign)]
        for name, tree in trees():
            for node in tree.body:
                if isinstance(node, ast.ImportFrom):
                    source = node.module.split(".")[1]
                    drawn[name[:-3]].append(source)
                    for alias in node.names:
                        self.assertIn(alias.name, defined[source], name)
        while drawn:
            free = [stem for stem in drawn if not any(source in drawn for source in drawn[stem])]
            self.assertTrue(free, f"files that draw from one another: {sorted(drawn)}")
            for stem in free:
                drawn.pop(stem)

    def test_names(self):
        for name, tree in trees():
            imports = [alias.name for node in tree.body if isinstance(node, ast.ImportFrom) for alias in node.names]
            classes = [node.name for node in tree.body if isinstance(node, ast.ClassDef)]
            for bound in bound_names(tree):
                self.assertRegex(bound, r"^[A-Za-z][A-Za-z0-9_]*$", name)
                self.assertNotIn(bound, dir(builtins) + imports + classes + BANNED_NAMES, name)
            for node in ast.walk(tree):
                if isinstance(node, ast.Name) and hasattr(builtins, node.id):
                    self.assertIn(node.id, BUILT_IN, name)
                if isinstance(node, (ast.FunctionDef, ast.ClassDef)) and node.name != "__init__":
                    self.assertRegex(node.name, r"^[A-Za-z][A-Za-z0-9_]*$", name)
                    self.assertNotIn(node.name, dir(builtins) + BANNED_NAMES, name)

    def test_methods_and_values(self):
        methods = set()
        values = set()
        called = set()
        for name, tree in trees():
            for node in ast.walk(tree):
                if isinstance(node, ast.ClassDef):
                    own = [entry.name for entry in node.body]
                    self.assertEqual(len(own), len(set(own)), node.name)
                    methods |= set(own) - {"__init__"}
                if isinstance(node, ast.Attribute) and isinstance(node.ctx, ast.Store):
                    values.add(node.attr)
                if isinstance(node, ast.Call) and isinstance(node.func, ast.Attribute):
                    called.add(node.func.attr)
        self.assertEqual(methods & values, set())
        self.assertEqual((methods | values) & (OF_PYTHONS_VALUES | set(BANNED_NAMES)), set())
        self.assertEqual(called - methods - set(METHODS), set())

    def test_walked_at_once(self):
        for name, tree in trees():
            walked = []
            for node in ast.walk(tree):
                if isinstance(node, (ast.For, ast.comprehension)):
                    walked.append(node.iter)
                if isinstance(node, ast.Call) and isinstance(node.func, ast.Name) and node.args:
                    if node.func.id in ("list", "tuple", "dict", "sorted", "sum", "any", "all", "enumerate", "zip"):
                        walked.append(node.args[0])
            for node in ast.walk(tree):
                if isinstance(node, ast.Call):
                    if isinstance(node.func, ast.Name) and node.func.id in WALKED_AT_ONCE:
                        self.assertIn(node, walked, name)
                    if isinstance(node.func, ast.Attribute) and node.func.attr in ("items", "keys", "values"):
                        self.assertIn(node, walked, name)


if __name__ == "__main__":
    unittest.main()

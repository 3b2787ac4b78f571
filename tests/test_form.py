"""The form of the package's own files, as far as it can be seen by going through their trees."""

import ast
import builtins
import pathlib
import re
import unittest

PACKAGE = pathlib.Path(__file__).resolve().parent.parent / "meetclocks"
FILES = sorted(PACKAGE.rglob("*.py"))

STATEMENTS = (ast.Assign, ast.AugAssign, ast.If, ast.While, ast.For, ast.Return, ast.Break, ast.Continue, ast.Pass,
              ast.Raise, ast.Expr, ast.FunctionDef, ast.ClassDef, ast.ImportFrom)
OWN_NAMES = set("""len range enumerate zip min max sum abs sorted reversed int str bool list tuple dict set frozenset
isinstance ord repr any all divmod Exception ValueError TypeError KeyError IndexError LookupError ZeroDivisionError
ArithmeticError OverflowError RuntimeError NotImplementedError AttributeError StopIteration""".split())
METHODS = set("""append clear copy count endswith extend find get index insert isalnum isalpha isdigit islower isspace
isupper items join keys ljust lower lstrip partition pop remove replace reverse rfind rjust rpartition rsplit rstrip
setdefault split splitlines startswith strip update upper values zfill bit_length""".split())
BARRED_WORDS = set("""type typing typing_extensions enum Enum IntEnum StrEnum Flag IntFlag Generic Protocol ABC ABCMeta
namedtuple NamedTuple TypedDict TYPE_CHECKING abstractmethod""".split())
BARRED_NAMES = set("""register mro elements open input version_info with_traceback add_note attrgetter breakpoint
builtins compile copyright credits delattr dir eval exec exit gc getattr globals hasattr help id importlib license
locals methodcaller os quit setattr super sys vars format format_map chr""".split())
WALKED = ("zip", "enumerate", "reversed", "range")
VALUE_METHODS = {name for kind in (str, int, list, dict, set, bytes, tuple) for name in dir(kind)}
# Parsed once: the tests tell nodes apart by their identity.
TREES = [(path.name, ast.parse(path.read_text())) for path in FILES]


def nodes(*kinds):
    for name, tree in TREES:
        for node in ast.walk(tree):
            if isinstance(node, kinds):
                yield f"{name}:{getattr(node, 'lineno', 0)}", node


class Files(unittest.TestCase):
    def test_only_plain_files(self):
        found = [path for path in PACKAGE.rglob("*") if "__pycache__" not in path.parts]
        self.assertEqual(sorted(found), FILES)
        self.assertIn(PACKAGE / "__init__.py", FILES)
        for path in FILES:
            self.assertRegex(path.name, r"^([a-z][a-z0-9_]*|__init__)\.py$")
            self.assertNotIn(path.stem, set(dir(builtins)) | BARRED_WORDS)

    def test_size_and_signs(self):
        for path in FILES:
            text = path.read_text()
            self.assertRegex(text, r"\A[\n -~]*\Z", path.name)
            self.assertLessEqual(len(text.splitlines()), 400, path.name)
            for line in text.splitlines():
                self.assertLessEqual(len(line), 120, f"{path.name}: {line}")
            self.assertEqual(set(re.findall(r"\w+", text)) & BARRED_WORDS, set(), path.name)
            self.assertNotRegex(text, r"dataclass|overload|contextmanager", path.name)

    def test_functions_are_short(self):
        for where, node in nodes(ast.FunctionDef):
            self.assertLessEqual(node.end_lineno - node.lineno + 1, 40, where)


class Statements(unittest.TestCase):
    def test_only_plain_ones(self):
        for where, node in nodes(ast.stmt):
            self.assertIsInstance(node, STATEMENTS, where)
            if isinstance(node, (ast.For, ast.While)):
                self.assertEqual(node.orelse, [], where)
            if isinstance(node, ast.Assign):
                self.assertEqual(len(node.targets), 1, where)

    def test_imports(self):
        drawn = {}
        for name, tree in TREES:
            drawn[name] = []
            for node in tree.body:
                if isinstance(node, ast.ImportFrom):
                    self.assertRegex(node.module, r"^meetclocks\.[a-z]+$")
                    self.assertEqual(node.level, 0)
                    source = ast.parse((PACKAGE / (node.module.split(".")[1] + ".py")).read_text())
                    for alias in node.names:
                        self.assertIn(alias.name, top_names(source), name)
                        self.assertIsNone(alias.asname, name)
                    drawn[name].append(node.module.split(".")[1] + ".py")
        while drawn:
            free = [name for name in drawn if not [other for other in drawn[name] if other in drawn]]
            self.assertNotEqual(free, [], f"files draw from one another: {sorted(drawn)}")
            drawn = {name: others for name, others in drawn.items() if name not in free}

    def test_top_of_files(self):
        for name, tree in TREES:
            self.assertIsNotNone(ast.get_docstring(tree), name)
            self.assertEqual(len(top_names(tree)), len(set(top_names(tree))), name)
            for node in tree.body[1:]:
                self.assertIsInstance(node, (ast.ImportFrom, ast.FunctionDef, ast.ClassDef, ast.Assign), name)
                if isinstance(node, ast.Assign):
                    self.assertIsInstance(ast.literal_eval(node.value), (int, str, tuple), name)

    def test_functions_and_classes(self):
        for where, node in nodes(ast.FunctionDef):
            self.assertEqual(node.decorator_list, [], where)
            self.assertIsNone(node.returns, where)
            self.assertIsNone(node.args.vararg or node.args.kwarg, where)
            self.assertEqual(node.args.kwonlyargs + node.args.posonlyargs, [], where)
            self.assertEqual([arg for arg in node.args.args if arg.annotation], [], where)
        for where, node in nodes(ast.ClassDef):
            self.assertEqual(node.decorator_list + node.keywords, [], where)
            self.assertLessEqual(len(node.bases), 1, where)
            methods = [method.name for method in node.body[1:]]
            self.assertEqual(len(methods), len(set(methods)), where)


class Expressions(unittest.TestCase):
    def test_none_that_is_barred(self):
        barred = (ast.SetComp, ast.DictComp, ast.GeneratorExp, ast.NamedExpr, ast.Starred, ast.Set, ast.Div, ast.Pow,
                  ast.Await, ast.Yield, ast.YieldFrom, ast.AnnAssign, ast.MatMult)
        for where, node in nodes(*barred):
            self.fail(where)
        for where, node in nodes(ast.ListComp):
            self.assertEqual(len(node.generators), 1, where)
            self.assertLessEqual(len(node.generators[0].ifs), 1, where)
        for where, node in nodes(ast.Constant):
            self.assertIsInstance(node.value, (int, str, type(None)), where)
            self.assertNotIn("%", str(node.value), where)
        for where, node in nodes(ast.Compare):
            for operator, other in zip(node.ops, node.comparators):
                if isinstance(operator, (ast.Is, ast.IsNot)):
                    self.assertIsNone(ast.literal_eval(other), where)

    def test_names(self):
        own = set(dir(builtins))
        for where, node in nodes(ast.Name, ast.arg, ast.Attribute, ast.FunctionDef, ast.ClassDef):
            name = name_of(node)
            self.assertRegex(name, r"^([a-zA-Z][a-zA-Z0-9_]*|__init__)$", where)
            self.assertNotIn(name, BARRED_NAMES | BARRED_WORDS, where)
            if isinstance(node, ast.Name) and isinstance(node.ctx, ast.Load):
                self.assertTrue(name not in own or name in OWN_NAMES, f"{where} {name}")
            elif not isinstance(node, ast.Attribute):
                self.assertNotIn(name, own, where)

    def test_locals_are_not_called_like_imports_or_classes(self):
        for name, tree in TREES:
            taken = [alias.name for node in tree.body if isinstance(node, ast.ImportFrom) for alias in node.names]
            taken += [node.name for node in tree.body if isinstance(node, (ast.ClassDef, ast.FunctionDef))]
            for node in ast.walk(tree):
                if isinstance(node, ast.arg) or isinstance(node, ast.Name) and isinstance(node.ctx, ast.Store):
                    self.assertNotIn(name_of(node), taken, f"{name}:{node.lineno}")

    def test_methods_and_values(self):
        own_methods = {method.name for where, node in nodes(ast.ClassDef) for method in node.body[1:]}
        own_values = {node.attr for where, node in nodes(ast.Attribute) if isinstance(node.ctx, ast.Store)}
        self.assertEqual(own_methods & own_values, set())
        self.assertEqual((own_methods - {"__init__"}) & VALUE_METHODS, set())
        self.assertEqual(own_values & VALUE_METHODS, set())
        called = {id(node.func) for where, node in nodes(ast.Call)}
        for where, node in nodes(ast.Attribute):
            if id(node) in called:
                self.assertIn(node.attr, METHODS | own_methods, where)
            else:
                self.assertIn(node.attr, own_values, where)

    def test_walked_on_the_spot(self):
        walked = set()
        for where, node in nodes(ast.For, ast.comprehension):
            walked.add(id(node.iter))
        for where, node in nodes(ast.Call):
            if isinstance(node.func, ast.Name) and node.func.id in ("list", "tuple", "dict", "sorted", "sum", "zip"):
                walked.update(id(argument) for argument in node.args)
        for where, node in nodes(ast.Call):
            if isinstance(node.func, ast.Name) and node.func.id in WALKED:
                self.assertIn(id(node), walked, where)


def name_of(node):
    for field in ("id", "arg", "attr", "name"):
        if hasattr(node, field):
            return getattr(node, field)


def top_names(tree):
    names = []
    for node in tree.body:
        if isinstance(node, (ast.FunctionDef, ast.ClassDef)):
            names.append(node.name)
        elif isinstance(node, ast.Assign):
            names.append(node.targets[0].id)
    return names


if __name__ == "__main__":
    unittest.main()

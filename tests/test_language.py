"""The package's own files keep to the small part of Python that the project is written in.

Each rule of the document LANGUAGE.md that a walk over the files can see is looked at here.
"""

import ast
import builtins
import re
import unittest
from pathlib import Path

PACKAGE = Path(__file__).resolve().parent.parent / "floathalf"

BUILTINS = set("""len range enumerate zip min max sum abs sorted reversed int str bool list tuple dict set
    frozenset isinstance ord repr any all divmod Exception ValueError TypeError KeyError IndexError
    LookupError ZeroDivisionError ArithmeticError OverflowError RuntimeError NotImplementedError
    AttributeError StopIteration object float bytes""".split())

METHODS = set("""append clear copy count endswith extend find get index insert isalnum isalpha isdigit islower
    isspace isupper items join keys ljust lower lstrip partition pop remove replace reverse rfind rjust
    rpartition rsplit rstrip setdefault split splitlines startswith strip update upper values zfill
    bit_length""".split())

NEVER_NAMES = set("""register mro elements open input version_info with_traceback add_note attrgetter breakpoint
    builtins compile copyright credits delattr dir eval exec exit gc getattr globals hasattr help id importlib
    license locals methodcaller os quit setattr super type vars sys __name__""".split())

NEVER_WORDS = set("""type typing typing_extensions enum Enum IntEnum StrEnum Flag IntFlag Generic Protocol ABC ABCMeta
    namedtuple NamedTuple TypedDict TYPE_CHECKING abstractmethod""".split())

NEVER_VALUES = set("""items keys values pop update append clear extend insert remove reverse setdefault sort args
    encode format""".split())

WALKED = ("zip", "enumerate", "reversed", "range")
WALKERS = ("list", "tuple", "dict", "sorted", "sum", "any", "all", "enumerate", "zip")

STATEMENTS = (ast.Assign, ast.AugAssign, ast.If, ast.While, ast.For, ast.Return, ast.Break, ast.Continue, ast.Pass,
              ast.Raise, ast.Try, ast.Expr, ast.FunctionDef, ast.ClassDef, ast.ImportFrom)

NEVER_NODES = (ast.Set, ast.SetComp, ast.DictComp, ast.GeneratorExp, ast.NamedExpr, ast.Starred, ast.Await, ast.Yield,
               ast.YieldFrom, ast.Div, ast.MatMult)


def plain_value(node, defined):
    """A value that may stand at a file's top; a tuple may hold tuples."""
    if isinstance(node, ast.Constant):
        return node.value is None or isinstance(node.value, (int, str))
    if isinstance(node, ast.UnaryOp) and isinstance(node.op, ast.USub):
        return plain_value(node.operand, defined)
    if isinstance(node, ast.Name):
        return node.id in defined
    if isinstance(node, ast.Dict):
        return all(plain_value(part, defined) and not isinstance(part, (ast.List, ast.Dict))
                   for part in node.keys + node.values)
    if isinstance(node, (ast.Tuple, ast.List)):
        return all(plain_value(part, defined) and not isinstance(part, (ast.List, ast.Dict)) for part in node.elts)
    return False


class Language(unittest.TestCase):
    def setUp(self):
        self.files = [path for path in sorted(PACKAGE.rglob("*"))
                      if "__pycache__" not in path.parts and path.is_file()]
        self.texts = {path: path.read_text(encoding="utf-8") for path in self.files}
        self.trees = {path: ast.parse(text) for path, text in self.texts.items()}

    def nodes(self):
        for path, tree in self.trees.items():
            for node in ast.walk(tree):
                yield "%s:%s" % (path.name, getattr(node, "lineno", 0)), node

    def test_files_and_signs(self):
        self.assertIn(PACKAGE / "__init__.py", self.files)
        for path, text in self.texts.items():
            self.assertRegex(path.name, r"^[a-z][a-z0-9_]*\.py$|^__(init|main)__\.py$")
            self.assertNotIn(path.stem, dir(builtins))
            self.assertIsNone(re.search(r"[^ -~\n]", text), path.name)
            self.assertLessEqual(len(text.splitlines()), 399, path.name)
            for line in text.splitlines():
                self.assertLessEqual(len(line), 120, (path.name, line))
            words = set(re.findall(r"\w+", text))
            self.assertFalse(words & NEVER_WORDS, path.name)
            self.assertFalse(re.findall(r"dataclass|overload|contextmanager", text), path.name)

    def test_the_top_of_each_file(self):
        for path, tree in self.trees.items():
            self.assertIsNotNone(ast.get_docstring(tree), path.name)
            defined = []
            for node in tree.body[1:]:
                self.assertIsInstance(node, (ast.ImportFrom, ast.FunctionDef, ast.ClassDef, ast.Assign), path.name)
                if isinstance(node, ast.ImportFrom):
                    self.imported_well(path, node)
                    defined.extend(alias.name for alias in node.names)
                elif isinstance(node, ast.Assign):
                    self.assertTrue(plain_value(node.value, defined), (path.name, node.lineno))
                    defined.extend(target.id for target in node.targets)
                else:
                    defined.append(node.name)
            self.assertEqual(len(defined), len(set(defined)), path.name)

    def imported_well(self, path, node):
        """From the very file of the package that defines the name."""
        self.assertEqual(node.level, 0, path.name)
        self.assertRegex(node.module, r"^floathalf\.\w+$")
        tree = self.trees[PACKAGE / (node.module.split(".")[1] + ".py")]
        own = [n.name for n in tree.body if isinstance(n, (ast.FunctionDef, ast.ClassDef))]
        own += [t.id for n in tree.body if isinstance(n, ast.Assign) for t in n.targets]
        for alias in node.names:
            self.assertIsNone(alias.asname)
            self.assertIn(alias.name, own, path.name)

    def test_no_two_files_draw_from_one_another(self):
        draws = {path.stem: {node.module.split(".")[1] for node in tree.body if isinstance(node, ast.ImportFrom)}
                 for path, tree in self.trees.items()}
        while draws:
            free = [name for name in draws if not draws[name] & set(draws)]
            self.assertTrue(free, draws)
            draws = {name: draws[name] for name in draws if name not in free}

    def test_statements_and_values(self):
        for where, node in self.nodes():
            if isinstance(node, ast.stmt):
                self.assertIsInstance(node, STATEMENTS, where)
            self.assertNotIsInstance(node, NEVER_NODES, where)
            if isinstance(node, ast.Assign):
                self.assertEqual(len(node.targets), 1, where)
            if isinstance(node, (ast.For, ast.While, ast.Try)):
                self.assertFalse(getattr(node, "finalbody", []), where)
                self.assertFalse(node.orelse and not isinstance(node, ast.Try), where)
            if isinstance(node, ast.Constant):
                self.assertFalse(isinstance(node.value, (float, bytes, complex)), where)
                self.assertFalse(isinstance(node.value, str) and "%" in node.value, where)
            if isinstance(node, ast.BinOp) and isinstance(node.op, ast.Pow):
                self.assertIsInstance(node.right, ast.Constant, where)
                self.assertLessEqual(node.right.value, 64, where)

    def test_functions(self):
        for where, node in self.nodes():
            if isinstance(node, ast.FunctionDef):
                self.assertLessEqual(node.end_lineno - node.lineno + 1, 40, where)
                self.assertFalse(node.decorator_list or node.args.vararg or node.args.kwarg, where)
                self.assertFalse(node.args.kwonlyargs or node.args.posonlyargs, where)

    def test_is_stands_beside_none_true_and_false_alone(self):
        for where, node in self.nodes():
            if isinstance(node, ast.Compare) and isinstance(node.ops[0], (ast.Is, ast.IsNot)):
                self.assertIsInstance(node.comparators[0], ast.Constant, where)
                self.assertIn(repr(node.comparators[0].value), ("None", "True", "False"), where)

    def test_names(self):
        for path, tree in self.trees.items():
            imported = {alias.name for node in tree.body if isinstance(node, ast.ImportFrom) for alias in node.names}
            tops = {node.name for node in tree.body if isinstance(node, (ast.FunctionDef, ast.ClassDef))}
            tops |= {target.id for node in tree.body if isinstance(node, ast.Assign) for target in node.targets}
            for function in [node for node in ast.walk(tree) if isinstance(node, ast.FunctionDef)]:
                own = {argument.arg for argument in function.args.args}
                own |= {node.id for node in ast.walk(function)
                        if isinstance(node, ast.Name) and isinstance(node.ctx, ast.Store)}
                own |= {node.name for node in ast.walk(function) if isinstance(node, ast.ExceptHandler) and node.name}
                self.assertFalse(own & (imported | tops | set(dir(builtins)) | NEVER_NAMES), (path.name, function.name))
                for name in own:
                    self.assertRegex(name, r"^[A-Za-z][A-Za-z0-9_]*$")
                read = {node.id for node in ast.walk(function) if isinstance(node, ast.Name)}
                inner = {node.name for node in ast.walk(function) if isinstance(node, ast.FunctionDef)}
                self.assertFalse(read - own - imported - tops - inner - BUILTINS, (path.name, function.name))

    def test_methods(self):
        own = {node.name for tree in self.trees.values() for kind in ast.walk(tree) if isinstance(kind, ast.ClassDef)
               for node in kind.body if isinstance(node, ast.FunctionDef)}
        for where, node in self.nodes():
            if isinstance(node, ast.Call) and isinstance(node.func, ast.Attribute):
                self.assertIn(node.func.attr, METHODS | own, where)
            if isinstance(node, ast.Attribute):
                self.assertNotIn(node.attr, NEVER_NAMES | {"format", "format_map", "args", "encode", "sort"}, where)

    def test_classes(self):
        methods, values = set(), set()
        for path, tree in self.trees.items():
            for node in [node for node in ast.walk(tree) if isinstance(node, ast.ClassDef)]:
                self.assertIn(node, tree.body, path.name)
                self.assertLessEqual(len(node.bases), 1, path.name)
                self.assertFalse(node.decorator_list or node.keywords, path.name)
                self.assertIsInstance(node.body[0], ast.Expr, path.name)
                own = [part.name for part in node.body[1:] if isinstance(part, ast.FunctionDef)]
                self.assertEqual(len(own), len(node.body) - 1, path.name)
                self.assertEqual(len(own), len(set(own)), path.name)
                methods |= set(own)
        for where, node in self.nodes():
            if isinstance(node, ast.Attribute) and isinstance(node.ctx, ast.Store):
                self.assertIsInstance(node.value, ast.Name, where)
                self.assertNotIn(node.attr, NEVER_VALUES, where)
                values.add(node.attr)
            if isinstance(node, ast.Attribute) and node.attr.startswith("__"):
                self.assertEqual(node.attr, "__init__", where)
        self.assertFalse(methods & values)
        for name in methods - {"__init__"} | values:
            self.assertRegex(name, r"^[A-Za-z][A-Za-z0-9_]*$")
            self.assertIsNone(re.match(r"(f|tb|co|gi|cr|ag)_", name), name)

    def test_errors(self):
        own = [node.name for tree in self.trees.values() for node in tree.body if isinstance(node, ast.ClassDef)]
        for where, node in self.nodes():
            if isinstance(node, ast.Raise):
                self.assertIsInstance(node.exc, ast.Call, where)
                self.assertIn(node.exc.func.id, own, where)
            if isinstance(node, ast.ExceptHandler):
                self.assertIn(node.type.id, own, where)

    def test_no_annotations(self):
        for where, node in self.nodes():
            if isinstance(node, ast.FunctionDef):
                self.assertFalse(node.returns or any(part.annotation for part in node.args.args), where)
                self.assertFalse(node.args.defaults, where)
            self.assertNotIsInstance(node, ast.AnnAssign, where)

    def test_what_is_walked_at_once(self):
        for path, tree in self.trees.items():
            walked = set()
            for node in ast.walk(tree):
                if isinstance(node, (ast.For, ast.comprehension)):
                    walked.add(node.iter)
                if isinstance(node, ast.Call) and isinstance(node.func, ast.Name) and node.func.id in WALKERS:
                    walked |= set(node.args)
            for node in ast.walk(tree):
                if isinstance(node, ast.Call) and isinstance(node.func, ast.Name) and node.func.id in WALKED:
                    self.assertIn(node, walked, (path.name, node.lineno))

    def test_tables_of_a_files_top_are_only_read(self):
        tables = {target.id for tree in self.trees.values() for node in tree.body if isinstance(node, ast.Assign)
                  for target in node.targets if isinstance(node.value, (ast.Tuple, ast.List, ast.Dict))}
        for path, tree in self.trees.items():
            allowed = set()
            for node in ast.walk(tree):
                if isinstance(node, ast.Subscript):
                    self.assertFalse(isinstance(node.ctx, ast.Store) and getattr(node.value, "id", "") in tables)
                    allowed.add(node.value)
                if isinstance(node, ast.Compare):
                    allowed |= set(node.comparators)
                if isinstance(node, (ast.For, ast.comprehension)):
                    allowed.add(node.iter)
            for node in ast.walk(tree):
                if isinstance(node, ast.Name) and node.id in tables and isinstance(node.ctx, ast.Load):
                    self.assertIn(node, allowed, (path.name, node.lineno))

"""The package's files keep to LANGUAGE.md, as far as a look at them can tell."""

import ast
import builtins
import pathlib
import re
import unittest

PACKAGE = pathlib.Path(__file__).resolve().parent.parent / "keptversions"
FILES = sorted(PACKAGE.glob("*.py"))
TREES = {path.stem: ast.parse(path.read_text()) for path in FILES}

OWN_NAMES = set("""len range enumerate zip min max sum abs sorted reversed int str bool list tuple dict set frozenset
isinstance ord repr any all divmod Exception ValueError TypeError KeyError IndexError LookupError ZeroDivisionError
ArithmeticError OverflowError RuntimeError NotImplementedError AttributeError StopIteration""".split())

METHODS = set("""append clear copy count endswith extend find get index insert isalnum isalpha isdigit islower isspace
isupper items join keys ljust lower lstrip partition pop remove replace reverse rfind rjust rpartition rsplit rstrip
setdefault split splitlines startswith strip update upper values zfill bit_length""".split())

VALUES = set("count index title find get join lower upper split strip copy add".split())

WORDS = """type typing typing_extensions enum Enum IntEnum StrEnum Flag IntFlag Generic Protocol ABC ABCMeta namedtuple
NamedTuple TypedDict TYPE_CHECKING abstractmethod""".split()

NOWHERE = set("""register mro elements open input version_info with_traceback add_note format format_map attrgetter
breakpoint builtins compile copyright credits delattr dir eval exec exit gc getattr globals hasattr help id importlib
license locals methodcaller os quit setattr super vars sys print chr""".split())

KEYWORDS = {"sorted": ("key", "reverse"), "min": ("key", "default"), "max": ("key", "default"), "sum": ("start",),
            "enumerate": ("start",), "zip": ("strict",)}

WALKING = "list tuple dict sorted sum any all enumerate zip min max".split()

CHANGES = "append clear extend insert pop remove reverse setdefault update".split()

ERRORS = [name for name in OWN_NAMES if name[0].isupper()]

STATEMENTS = (ast.Assign, ast.AugAssign, ast.If, ast.While, ast.For, ast.Return, ast.Break, ast.Continue, ast.Pass,
              ast.Raise, ast.Try, ast.Expr, ast.FunctionDef)

EXPRESSIONS = (ast.Constant, ast.List, ast.Tuple, ast.Dict, ast.BinOp, ast.UnaryOp, ast.BoolOp, ast.Compare, ast.IfExp,
               ast.Call, ast.Attribute, ast.Subscript, ast.Slice, ast.ListComp, ast.Lambda, ast.Name, ast.JoinedStr,
               ast.FormattedValue)


def nodes(kind):
    """Each node of that kind, with its file's name."""
    return [(name, node) for name, tree in TREES.items() for node in ast.walk(tree) if isinstance(node, kind)]


def bound_at_top(tree):
    bound = []
    for statement in tree.body:
        if isinstance(statement, (ast.FunctionDef, ast.ClassDef)):
            bound.append(statement.name)
        elif isinstance(statement, ast.Assign):
            bound += [target.id for target in statement.targets]
        elif isinstance(statement, ast.ImportFrom):
            bound += [each.name for each in statement.names]
    return bound


class Files(unittest.TestCase):
    def test_what_lies_in_the_package(self):
        there = [path.name for path in PACKAGE.iterdir() if path.name != "__pycache__"]
        self.assertIn("__init__.py", there)
        for name in there:
            self.assertRegex(name, r"^(__init__|[a-z][a-z0-9_]*)\.py$")
            self.assertNotIn(name[:-3], dir(builtins))
            self.assertNotRegex(name, r"^(tests?|testing|test_.*|site|conftest)\.py$")

    def test_signs_and_sizes(self):
        for path in FILES:
            content = path.read_text()
            self.assertLessEqual(set(content), set(map(chr, range(32, 127))) | {"\n"}, path.name)
            self.assertLessEqual(len(content.splitlines()), 400, path.name)
            self.assertLessEqual(max(map(len, content.splitlines())), 120, path.name)
        for name, node in nodes(ast.FunctionDef):
            self.assertLessEqual(node.end_lineno - node.lineno + 1, 40, (name, node.name))

    def test_words_that_stand_nowhere(self):
        for path in FILES:
            for word in WORDS:
                self.assertIsNone(re.search(rf"\b{word}\b", path.read_text()), (path.name, word))
            for word in ("dataclass", "overload", "contextmanager"):
                self.assertNotIn(word, path.read_text(), path.name)

    def test_imports(self):
        self.assertEqual(nodes(ast.Import), [])
        drawn = {name: [] for name in TREES}
        for name, node in nodes(ast.ImportFrom):
            self.assertEqual(node.level, 0)
            self.assertIn(node, TREES[name].body)
            package, source = node.module.split(".")
            self.assertEqual(package, "keptversions")
            for each in node.names:
                self.assertIsNone(each.asname)
                defined = [one for one in TREES[source].body if not isinstance(one, ast.ImportFrom)]
                self.assertIn(each.name, bound_at_top(ast.Module(defined, [])), (name, each.name))
            drawn[name].append(source)
        self.assertEqual(drawn["__init__"], [])
        while drawn:
            ends = [name for name in drawn if not set(drawn[name]) & set(drawn)]
            self.assertNotEqual(ends, [], "files that draw from one another")
            drawn = {name: drawn[name] for name in drawn if name not in ends}

    def test_every_import_is_used(self):
        for name, tree in TREES.items():
            used = {node.id for node in ast.walk(tree) if isinstance(node, ast.Name)}
            for node in tree.body:
                if isinstance(node, ast.ImportFrom):
                    for each in node.names:
                        self.assertIn(each.name, used, name)


class Form(unittest.TestCase):
    def test_the_top_of_a_module(self):
        for name, tree in TREES.items():
            self.assertIsNotNone(ast.get_docstring(tree), name)
            for statement in tree.body[1:]:
                self.assertIsInstance(statement, (ast.ImportFrom, ast.FunctionDef, ast.ClassDef, ast.Assign), name)
                if isinstance(statement, ast.Assign):
                    for node in ast.walk(statement.value):
                        self.assertIsInstance(node, (ast.Constant, ast.Tuple, ast.List, ast.Dict, ast.Name, ast.Load,
                                                     ast.UnaryOp, ast.USub), name)
            bound = bound_at_top(tree)
            self.assertEqual(len(bound), len(set(bound)), name)

    def test_functions(self):
        for name, node in nodes((ast.FunctionDef, ast.Lambda)):
            given = node.args
            self.assertEqual((given.vararg, given.kwarg, given.kwonlyargs, given.posonlyargs), (None, None, [], []))
            self.assertTrue(all(each.annotation is None for each in given.args))
            if isinstance(node, ast.FunctionDef):
                self.assertEqual((node.decorator_list, node.returns), ([], None))

    def test_classes(self):
        for name, node in nodes(ast.ClassDef):
            self.assertIn(node, TREES[name].body)
            self.assertLessEqual(len(node.bases), 1)
            self.assertEqual((node.keywords, node.decorator_list), ([], []))
            for statement in node.body:
                self.assertIsInstance(statement, (ast.FunctionDef, ast.Pass))

    def test_statements(self):
        for name, node in nodes(ast.FunctionDef):
            for inner in ast.walk(node):
                if isinstance(inner, ast.stmt):
                    self.assertIsInstance(inner, STATEMENTS, (name, inner.lineno))
                if isinstance(inner, ast.Expr):
                    self.assertIsInstance(inner.value, ast.Call, (name, inner.lineno))
                if isinstance(inner, ast.Assign):
                    self.assertEqual(len(inner.targets), 1)
                    self.assertNotIsInstance(inner.targets[0], (ast.Tuple, ast.List), (name, inner.lineno))
                if isinstance(inner, (ast.For, ast.While)):
                    self.assertEqual(inner.orelse, [])
                if isinstance(inner, ast.Try):
                    self.assertEqual(inner.finalbody, [])
                    self.assertTrue(all(isinstance(each.type, ast.Name) for each in inner.handlers))
                if isinstance(inner, ast.Raise):
                    self.assertIsInstance(inner.exc, ast.Call)

    def test_expressions(self):
        for name, node in nodes(ast.expr):
            self.assertIsInstance(node, EXPRESSIONS, (name, node.lineno))
            if isinstance(node, ast.Constant):
                self.assertIn(type(node.value), (int, str, bool, type(None)), (name, node.lineno))
            if isinstance(node, ast.BinOp):
                self.assertNotIsInstance(node.op, (ast.Div, ast.MatMult, ast.Pow), (name, node.lineno))
            if isinstance(node, ast.ListComp):
                self.assertEqual(len(node.generators), 1)
                self.assertLessEqual(len(node.generators[0].ifs), 1)
            if isinstance(node, ast.Compare) and any(isinstance(each, (ast.Is, ast.IsNot)) for each in node.ops):
                sides = [each.value for each in [node.left] + node.comparators if isinstance(each, ast.Constant)]
                self.assertTrue(any(isinstance(each, (bool, type(None))) for each in sides), (name, node.lineno))

    def test_names(self):
        for name, tree in TREES.items():
            bound = set(bound_at_top(tree))
            imported = {each.name for one in tree.body if isinstance(one, ast.ImportFrom) for each in one.names}
            classes = {one.name for one in tree.body if isinstance(one, ast.ClassDef)}
            local = {node.arg for node in ast.walk(tree) if isinstance(node, ast.arg)}
            local |= {node.id for function in ast.walk(tree) if isinstance(function, ast.FunctionDef)
                      for node in ast.walk(function) if isinstance(node, ast.Name) and isinstance(node.ctx, ast.Store)}
            self.assertEqual((local | bound) & set(dir(builtins)), set(), name)
            self.assertEqual(local & (imported | classes), set(), name)
            for node in ast.walk(tree):
                if isinstance(node, ast.Name):
                    self.assertIn(node.id, local | bound | OWN_NAMES, (name, node.lineno))
                    self.assertNotIn(node.id, NOWHERE)
            for each in local | bound:
                self.assertRegex(each, r"^[A-Za-z][A-Za-z0-9_]*$")
                self.assertNotIn(each, NOWHERE)

    def test_attributes(self):
        taken = set().union(*[dir(kind) for kind in (str, int, list, dict, set, bytes, tuple)])
        called = {id(node.func) for name, node in nodes(ast.Call)}
        for name, node in nodes(ast.Attribute):
            self.assertNotIn(node.attr, NOWHERE)
            self.assertRegex(node.attr, r"^[a-z][a-z0-9_]*$")
            if id(node) in called:
                self.assertIn(node.attr, METHODS, (name, node.lineno))
            elif node.attr not in VALUES:
                self.assertNotIn(node.attr, taken, (name, node.lineno))

    def test_keywords(self):
        for name, node in nodes(ast.Call):
            for each in node.keywords:
                self.assertIsInstance(node.func, ast.Name, (name, node.lineno))
                self.assertIn(each.arg, KEYWORDS.get(node.func.id, ()), (name, node.lineno))

    def test_walked_at_once(self):
        on_the_spot = set()
        for name, node in nodes((ast.For, ast.comprehension)):
            on_the_spot.add(id(node.iter))
        for name, node in nodes(ast.Call):
            if isinstance(node.func, ast.Name) and node.func.id in WALKING and node.args:
                on_the_spot.add(id(node.args[0]))
        for name, node in nodes(ast.Call):
            called = node.func.id if isinstance(node.func, ast.Name) else node.func.attr
            if called in ("zip", "enumerate", "reversed", "range", "items", "keys", "values"):
                self.assertIn(id(node), on_the_spot, (name, node.lineno))
            self.assertNotIn(called, ("set", "frozenset"), (name, node.lineno))

    def test_own_functions_are_called_not_kept(self):
        called = {id(node.func) for name, node in nodes(ast.Call)}
        for name, node in nodes(ast.Name):
            if node.id in OWN_NAMES and node.id not in ERRORS:
                self.assertIn(id(node), called, (name, node.lineno))

    def test_what_a_file_keeps_at_its_top(self):
        for name, tree in TREES.items():
            defined = [one.name for one in tree.body if isinstance(one, ast.FunctionDef)]
            for statement in [one for one in tree.body if isinstance(one, ast.Assign)]:
                inner = [node for node in ast.walk(statement.value) if isinstance(node, (ast.List, ast.Dict))]
                self.assertLessEqual(len(inner), 1, (name, statement.lineno))
                for node in ast.walk(statement.value):
                    if isinstance(node, ast.Name):
                        self.assertIn(node.id, defined, (name, statement.lineno))
                if inner:
                    self.only_indexed(tree, statement.targets[0])

    def only_indexed(self, tree, target):
        indexed = {id(node.value) for node in ast.walk(tree) if isinstance(node, ast.Subscript)}
        for node in ast.walk(tree):
            if isinstance(node, ast.Name) and node.id == target.id:
                self.assertTrue(node == target or id(node) in indexed, (target.id, node.lineno))

    def test_errors_that_are_taken(self):
        own = {node.name for name, node in nodes(ast.ClassDef)}
        for name, node in nodes(ast.ExceptHandler):
            self.assertIn(node.type.id, own, (name, node.lineno))
        for name, node in nodes(ast.Raise):
            self.assertIn(node.exc.func.id, own, (name, node.lineno))

    def test_what_a_loop_walks_is_not_changed_in_it(self):
        for name, loop in nodes(ast.For):
            walked = {ast.dump(node) for node in ast.walk(loop.iter) if isinstance(node, (ast.Name, ast.Attribute))}
            for node in ast.walk(loop):
                if isinstance(node, ast.Call) and isinstance(node.func, ast.Attribute) and node.func.attr in CHANGES:
                    self.assertNotIn(ast.dump(node.func.value), walked, (name, node.lineno))

    def test_methods(self):
        for name, node in nodes(ast.ClassDef):
            for method in node.body:
                if isinstance(method, ast.FunctionDef):
                    self.assertEqual(method.name, "__init__", name)


if __name__ == "__main__":
    unittest.main()

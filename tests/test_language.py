"""The package's own files keep to the part of Python that's allowed, as far as that's seen from their trees.

The tests bear the numbers of the rules. Where a rule allows more than the package needs, they may be narrower.
"""

import ast
import builtins
import pathlib
import re
import unittest

PACKAGE = pathlib.Path(__file__).resolve().parent.parent / "mutantrows"

ERRORS = set("""Exception ValueError TypeError KeyError IndexError LookupError ZeroDivisionError ArithmeticError
    OverflowError RuntimeError NotImplementedError AttributeError StopIteration""".split())

BUILTINS = set(dir(builtins))

OWN_NAMES = ERRORS | set("""len range enumerate zip min max sum abs sorted reversed int str bool list tuple dict set
    frozenset isinstance ord repr any all divmod""".split())

METHODS = set("""append clear copy count endswith extend find get index insert isalnum isalpha isdigit islower isspace
    isupper items join keys ljust lower lstrip partition pop remove replace reverse rfind rjust rpartition rsplit
    rstrip setdefault split splitlines startswith strip update upper values zfill bit_length""".split())

CHANGING = set("append clear extend insert pop remove reverse setdefault update".split())

# A value of an object may be called so, though Python's own values have it.
FREE_VALUES = set("count index title find get join lower upper split strip copy add".split())

UNUSED_WORDS = set("""type typing typing_extensions enum Enum IntEnum StrEnum Flag IntFlag Generic Protocol ABC ABCMeta
    namedtuple NamedTuple TypedDict TYPE_CHECKING abstractmethod""".split())

UNUSED_NAMES = set("""register mro elements open input version_info with_traceback add_note attrgetter breakpoint
    builtins compile copyright credits delattr dir eval exec exit gc getattr globals hasattr help id importlib license
    locals methodcaller os quit setattr super type vars sys format format_map""".split())

FILE_NAMES = {"test", "tests", "testing", "site", "conftest", "sitecustomize", "usercustomize"}

STATEMENTS = (ast.Assign, ast.AugAssign, ast.If, ast.While, ast.For, ast.Return, ast.Break, ast.Continue, ast.Pass,
              ast.Raise, ast.Try, ast.Expr, ast.FunctionDef, ast.ClassDef, ast.ImportFrom)

EXPRESSIONS = (ast.Constant, ast.List, ast.Tuple, ast.Dict, ast.Set, ast.BinOp, ast.UnaryOp, ast.Compare, ast.BoolOp,
               ast.IfExp, ast.Call, ast.Attribute, ast.Subscript, ast.Slice, ast.ListComp, ast.JoinedStr,
               ast.FormattedValue, ast.Lambda, ast.Name)

WALKED = {"zip", "enumerate", "reversed", "range", "items", "keys", "values"}
WALKERS = {"list", "tuple", "dict", "sorted", "sum", "any", "all", "enumerate", "zip", "min", "max"}


def read_trees():
    """Each file's tree, with its parent and its file written on each node."""
    trees = {}
    for path in sorted(PACKAGE.glob("*.py")):
        tree = ast.parse(path.read_text(encoding="utf-8"))
        tree.parent = None
        for node in ast.walk(tree):
            node.file = path.stem
            for child in ast.iter_child_nodes(node):
                child.parent = node
        trees[path.stem] = tree
    return trees


TREES = read_trees()


def nodes(*kinds):
    return [node for tree in TREES.values() for node in ast.walk(tree) if not kinds or isinstance(node, kinds)]


def where(node):
    return f"{node.file}.py:{getattr(node, 'lineno', 0)}"


def called_name(node):
    """What's called here: a name or a method's name; None, if it's no call."""
    if not isinstance(node, ast.Call):
        return None
    return getattr(node.func, "id", None) or getattr(node.func, "attr", None)


def top_names(tree):
    """All that's bound at a file's top, without the imports."""
    names = [node.name for node in tree.body if isinstance(node, (ast.FunctionDef, ast.ClassDef))]
    return names + [target.id for node in tree.body if isinstance(node, ast.Assign) for target in node.targets]


def imported(tree):
    return [alias.name for node in tree.body if isinstance(node, ast.ImportFrom) for alias in node.names]


CLASSES = {node.name: node for node in nodes(ast.ClassDef)}
OWN_METHODS = {part.name for node in CLASSES.values() for part in node.body if isinstance(part, ast.FunctionDef)}
STORED = [node for node in nodes(ast.Attribute) if isinstance(node.ctx, ast.Store)]


class Files(unittest.TestCase):
    def test_l1_l14_only_plain_files_lie_there(self):
        self.assertIn("__init__", TREES)
        for path in PACKAGE.rglob("*"):
            if "__pycache__" not in path.parts:
                self.assertRegex(path.name, r"^(__init__|[a-z][a-z0-9_]*)\.py$")
                self.assertFalse(path.stem in BUILTINS, path.name)
                self.assertNotIn(path.stem, FILE_NAMES | UNUSED_WORDS)
                self.assertFalse(path.stem.startswith("test_"))

    def test_l10_l14_signs_and_size(self):
        for path in PACKAGE.glob("*.py"):
            text = path.read_bytes()
            self.assertTrue(all(sign == 10 or 32 <= sign <= 126 for sign in text), path.name)
            lines = text.decode().splitlines()
            self.assertLessEqual(len(lines), 400, path.name)
            self.assertLessEqual(max(len(line) for line in lines), 120, path.name)
        for node in nodes(ast.FunctionDef):
            self.assertLessEqual(node.end_lineno - node.lineno + 1, 40, where(node))

    def test_l17_words_that_stand_nowhere(self):
        for path in PACKAGE.glob("*.py"):
            text = path.read_text()
            self.assertEqual(set(re.findall(r"\w+", text)) & UNUSED_WORDS, set(), path.name)
            self.assertNotRegex(text, "dataclass|overload|contextmanager")


class Imports(unittest.TestCase):
    def drawn(self, tree):
        return {node.module.split(".")[1] for node in ast.walk(tree) if isinstance(node, ast.ImportFrom)}

    def test_l2_l16_names_of_the_packages_own_files(self):
        for node in nodes(ast.ImportFrom):
            self.assertEqual(node.level, 0, where(node))
            self.assertRegex(node.module, r"^mutantrows\.[a-z][a-z0-9_]*$", where(node))
            self.assertIsInstance(node.parent, ast.Module, where(node))
            for alias in node.names:
                self.assertIsNone(alias.asname, where(node))
                self.assertIn(alias.name, top_names(TREES[node.module.split(".")[1]]), where(node))

    def test_l16_no_two_files_draw_from_one_another(self):
        left = {name: self.drawn(tree) for name, tree in TREES.items()}
        while left:
            free = [name for name in left if not left[name] & set(left)]
            self.assertNotEqual(free, [], left)
            left = {name: drawn for name, drawn in left.items() if name not in free}

    def test_l16_init_binds_nothing(self):
        self.assertEqual(top_names(TREES["__init__"]) + imported(TREES["__init__"]), [])

    def test_each_import_is_used(self):
        for tree in TREES.values():
            used = {node.id for node in ast.walk(tree) if isinstance(node, ast.Name)}
            self.assertEqual(set(imported(tree)) - used, set())


class Tops(unittest.TestCase):
    def assert_plain(self, value, functions, inside):
        if isinstance(value, ast.UnaryOp):
            self.assertIsInstance(value.op, ast.USub, where(value))
            value = value.operand
        if isinstance(value, ast.Name):
            self.assertIn(value.id, functions, where(value))
        elif isinstance(value, ast.Tuple) or (isinstance(value, (ast.List, ast.Dict)) and not inside):
            for part in ast.iter_child_nodes(value):
                if isinstance(part, ast.expr):
                    self.assert_plain(part, functions, True)
        else:
            self.assertIsInstance(value, ast.Constant, where(value))

    def test_l3_l15_what_stands_there(self):
        for tree in TREES.values():
            functions = []
            for node in tree.body:
                self.assertIsInstance(node, (ast.Expr, ast.ImportFrom, ast.FunctionDef, ast.ClassDef, ast.Assign))
                if isinstance(node, ast.Expr):
                    self.assertIs(node, tree.body[0], where(node))
                    self.assertIsInstance(node.value, ast.Constant, where(node))
                if isinstance(node, ast.FunctionDef):
                    functions.append(node.name)
                if isinstance(node, ast.Assign):
                    self.assert_plain(node.value, functions, False)

    def test_l15_each_name_once(self):
        for tree in TREES.values():
            names = top_names(tree) + imported(tree)
            self.assertEqual(len(names), len(set(names)), names)

    def test_l15_nothing_at_the_top_is_changed_or_handed_on(self):
        for tree in TREES.values():
            kept = {node.targets[0].id for node in tree.body
                    if isinstance(node, ast.Assign) and isinstance(node.value, (ast.List, ast.Dict))}
            for node in ast.walk(tree):
                if isinstance(node, ast.Name) and node.id in kept and isinstance(node.ctx, ast.Load):
                    asked = isinstance(node.parent, ast.Compare) and isinstance(node.parent.ops[0], (ast.In, ast.NotIn))
                    taken = isinstance(node.parent, ast.Subscript) and isinstance(node.parent.ctx, ast.Load)
                    self.assertTrue(asked or taken, where(node))

    def test_l15_no_local_is_called_like_a_class_or_an_import(self):
        for tree in TREES.values():
            taken = set(imported(tree)) | {node.name for node in tree.body if isinstance(node, ast.ClassDef)}
            for node in ast.walk(tree):
                if isinstance(node, ast.Name) and isinstance(node.ctx, ast.Store):
                    self.assertFalse(node.id in taken or node.id in BUILTINS, where(node))
                if isinstance(node, ast.arg):
                    self.assertFalse(node.arg in taken or node.arg in BUILTINS, where(node))


class Forms(unittest.TestCase):
    def test_l4_l21_functions(self):
        for node in nodes(ast.FunctionDef, ast.Lambda):
            self.assertIsNone(node.args.vararg or node.args.kwarg, where(node))
            self.assertEqual(node.args.kwonlyargs + node.args.posonlyargs, [], where(node))
            for value in node.args.defaults:
                self.assertIsInstance(value, ast.Constant, where(node))
            for one in node.args.args:
                self.assertIsNone(one.annotation, where(node))
        for node in nodes(ast.FunctionDef):
            self.assertEqual(node.decorator_list, [], where(node))
            self.assertIsNone(node.returns, where(node))

    def test_l6_statements(self):
        for node in nodes(ast.stmt):
            self.assertIsInstance(node, STATEMENTS, where(node))
            if isinstance(node, (ast.For, ast.While)):
                self.assertEqual(node.orelse, [], where(node))
            if isinstance(node, ast.Assign):
                self.assertEqual(len(node.targets), 1, where(node))
                self.assertIsInstance(node.targets[0], (ast.Name, ast.Attribute, ast.Subscript), where(node))
            if isinstance(node, ast.Try):
                self.assertEqual(node.finalbody, [], where(node))
            if isinstance(node, ast.Expr) and not isinstance(node.value, ast.Call):
                self.assertIsInstance(node.value, ast.Constant, where(node))
                self.assertIs(node.parent.body[0], node, where(node))

    def test_l7_l13_expressions(self):
        for node in nodes(ast.expr):
            self.assertIsInstance(node, EXPRESSIONS, where(node))
            self.assertNotIsInstance(node, ast.Set, where(node))
            if isinstance(node, ast.Constant):
                self.assertIn(type(node.value), (int, str, bool, type(None)), where(node))
            if isinstance(node, ast.BinOp):
                self.assertNotIsInstance(node.op, (ast.Div, ast.MatMult), where(node))
            if isinstance(node, ast.ListComp):
                self.assertEqual(len(node.generators), 1, where(node))
                self.assertLessEqual(len(node.generators[0].ifs), 1, where(node))
            if isinstance(node, ast.FormattedValue):
                self.assertIsInstance(node.value, ast.Name, where(node))

    def test_l20_is(self):
        for node in nodes(ast.Compare):
            for op, other in zip(node.ops, node.comparators):
                if isinstance(op, (ast.Is, ast.IsNot)):
                    self.assertIsInstance(other, ast.Constant, where(node))
                    self.assertIn(type(other.value), (bool, type(None)), where(node))

    def test_l27_numbers_and_texts(self):
        for node in nodes(ast.BinOp):
            if isinstance(node.op, ast.Pow):
                self.assertIsInstance(node.right, ast.Constant, where(node))
        for node in nodes(ast.Constant):
            if isinstance(node.value, str):
                self.assertNotIn("%", node.value, where(node))


class Names(unittest.TestCase):
    def test_l8_l22_names_of_pythons_own_are_called_only(self):
        for node in nodes(ast.Name):
            if node.id in BUILTINS:
                self.assertIn(node.id, OWN_NAMES, where(node))
                self.assertIsInstance(node.ctx, ast.Load, where(node))
                if not isinstance(node.parent, ast.ClassDef):
                    self.assertEqual(called_name(node.parent), node.id, where(node))

    def test_l22_keywords(self):
        for node in nodes(ast.keyword):
            self.assertIn((called_name(node.parent), node.arg),
                          {("sorted", "key"), ("sorted", "reverse"), ("min", "key"), ("max", "key"), ("min", "default"),
                           ("max", "default"), ("sum", "start"), ("enumerate", "start"), ("zip", "strict")})

    def test_l12_l17_names(self):
        for node in nodes():
            for field in ("id", "name", "attr", "arg"):
                name = getattr(node, field, None)
                if isinstance(name, str) and name != "__init__":
                    self.assertRegex(name, r"^[A-Za-z][A-Za-z0-9_]*$", where(node))
                    self.assertNotIn(name, UNUSED_NAMES, where(node))

    def test_l25_methods(self):
        for node in nodes(ast.Call):
            if isinstance(node.func, ast.Attribute):
                self.assertIn(node.func.attr, METHODS | OWN_METHODS, where(node))

    def test_l25_methods_are_called_where_they_stand(self):
        stored = {node.attr for node in STORED}
        for node in nodes(ast.Attribute):
            if node.attr not in stored:
                self.assertTrue(isinstance(node.parent, ast.Call) and node.parent.func is node, where(node))

    def test_l23_walked_at_once(self):
        for node in nodes(ast.Call):
            if called_name(node) in WALKED:
                walked = isinstance(node.parent, (ast.For, ast.comprehension)) and node.parent.iter is node
                first = called_name(node.parent) in WALKERS and node.parent.args[0] is node
                self.assertTrue(walked or first, where(node))

    def test_l23_what_is_walked_is_not_changed(self):
        for loop in nodes(ast.For):
            walked = {ast.dump(node) for node in ast.walk(loop.iter) if isinstance(node, (ast.Name, ast.Attribute))}
            for node in [part for statement in loop.body for part in ast.walk(statement)]:
                if called_name(node) in CHANGING and isinstance(node.func, ast.Attribute):
                    self.assertNotIn(ast.dump(node.func.value), walked, where(node))

    def test_l24_sets(self):
        for node in nodes(ast.Call):
            if called_name(node) in ("set", "frozenset"):
                fitting = isinstance(node.parent, ast.Compare) or called_name(node.parent) in ("sorted", "len")
                self.assertTrue(fitting, where(node))


class Classes(unittest.TestCase):
    def test_l5_l28_plain_ones(self):
        for node in CLASSES.values():
            self.assertIsInstance(node.parent, ast.Module, where(node))
            self.assertEqual(node.decorator_list + node.keywords, [], where(node))
            self.assertLessEqual(len(node.bases), 1, where(node))
            for part in node.body:
                self.assertIsInstance(part, (ast.FunctionDef, ast.Expr), where(part))
            names = [part.name for part in node.body if isinstance(part, ast.FunctionDef)]
            self.assertEqual(len(names), len(set(names)), where(node))
        for node in nodes(ast.FunctionDef):
            if node.name == "__init__":
                self.assertEqual([part for part in ast.walk(node) if isinstance(part, ast.Return)], [], where(node))

    def test_l18_error_classes(self):
        for node in CLASSES.values():
            for base in node.bases:
                self.assertIn(base.id, (ERRORS | set(CLASSES)) - {"StopIteration", "AttributeError"}, where(node))

    def test_l18_classes_are_not_handed_on(self):
        for node in nodes(ast.Name):
            if node.id in CLASSES:
                caught = isinstance(node.parent, ast.ExceptHandler) and node.parent.type is node
                self.assertTrue(caught or called_name(node.parent) == node.id, where(node))

    def test_l18_no_name_is_a_method_and_a_value(self):
        self.assertEqual({node.attr for node in STORED} & OWN_METHODS, set())

    def test_l19_only_own_errors_are_taken_and_raised(self):
        own = {name for name, node in CLASSES.items() if node.bases}
        for node in nodes(ast.ExceptHandler):
            self.assertIn(node.type.id, own, where(node))
        for node in nodes(ast.Raise):
            self.assertIn(called_name(node.exc), own, where(node))

    def test_l26_values(self):
        taken = {name for one in (str, int, list, dict, set, bytes, tuple) for name in dir(one)} - FREE_VALUES
        for node in STORED:
            self.assertNotIn(node.attr, taken, where(node))
            self.assertIsInstance(node.value, ast.Name, where(node))
        for name in OWN_METHODS - {"__init__"}:
            self.assertNotIn(name, taken - METHODS, name)

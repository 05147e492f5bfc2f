"""The rules of the part of Python that the package keeps to, as far as a walk over the code can see them."""

import ast
import builtins
import pathlib
import re
import unittest

PACKAGE = pathlib.Path(__file__).resolve().parent.parent / "goodsplans"

OWN_NAMES = set("""len range enumerate zip min max sum abs sorted reversed int str bool list tuple dict set frozenset
    isinstance ord repr any all divmod Exception ValueError TypeError KeyError IndexError LookupError
    ZeroDivisionError ArithmeticError OverflowError RuntimeError NotImplementedError AttributeError
    StopIteration True False None""".split())
METHODS = set("""append clear copy count endswith extend find get index insert isalnum isalpha isdigit islower isspace
    isupper items join keys ljust lower lstrip partition pop remove replace reverse rfind rjust rpartition rsplit
    rstrip setdefault split splitlines startswith strip update upper values zfill bit_length""".split())
UNUSED = set("""register mro elements open input version_info with_traceback add_note attrgetter breakpoint builtins
    compile copyright credits delattr dir eval exec exit gc getattr globals hasattr help id importlib license locals
    methodcaller os quit setattr super type vars sys format format_map chr print""".split())
WORDS = r"\b(type|typing|typing_extensions|enum|Enum|IntEnum|StrEnum|Flag|IntFlag|Generic|Protocol|ABC|ABCMeta|" \
        r"namedtuple|NamedTuple|TypedDict|TYPE_CHECKING|abstractmethod)\b|dataclass|overload|contextmanager"
SPECIAL = ("__init__", "__eq__", "__repr__", "__str__", "__len__")
TAKEN_VALUES = set("""items keys values pop update append clear extend insert remove reverse setdefault sort args
    encode format""".split())
FREE_VALUES = set("count index title find get join lower upper split strip copy add".split())

STATEMENTS = (ast.Assign, ast.AugAssign, ast.If, ast.While, ast.For, ast.Return, ast.Break, ast.Continue, ast.Pass,
              ast.Raise, ast.Try, ast.Expr, ast.FunctionDef, ast.ClassDef, ast.ImportFrom)
EXPRESSIONS = (ast.Constant, ast.Name, ast.Attribute, ast.Subscript, ast.Slice, ast.Call, ast.List, ast.Tuple,
               ast.Dict, ast.BinOp, ast.UnaryOp, ast.BoolOp, ast.Compare, ast.IfExp, ast.ListComp, ast.Lambda,
               ast.JoinedStr, ast.FormattedValue)
WALKED = ("zip", "enumerate", "reversed", "range")
CHANGES = ("append", "clear", "extend", "insert", "pop", "remove", "reverse", "setdefault", "update")


def files():
    return sorted(path for path in PACKAGE.rglob("*") if path.is_file() and path.suffix != ".pyc")


def trees():
    return {path: ast.parse(path.read_text(encoding="utf-8")) for path in files()}


def bound_at_top(tree):
    names = []
    for node in tree.body:
        if isinstance(node, (ast.FunctionDef, ast.ClassDef)):
            names.append(node.name)
        if isinstance(node, ast.Assign):
            names += [target.id for target in node.targets]
        if isinstance(node, ast.ImportFrom):
            names += [alias.asname or alias.name for alias in node.names]
    return names


def is_plain(node):
    if isinstance(node, ast.UnaryOp):
        return isinstance(node.op, ast.USub) and is_plain(node.operand)
    if isinstance(node, ast.Dict):
        return all(is_plain(inner) for inner in node.keys + node.values)
    if isinstance(node, (ast.List, ast.Tuple)):
        return all(is_plain(inner) for inner in node.elts)
    return isinstance(node, ast.Constant)


def walked_by(node):
    """What a loop walks, itself or through enumerate, zip and their like, as it is written."""
    if isinstance(node, ast.Call) and isinstance(node.func, ast.Name) and node.func.id in WALKED:
        return {found for inner in node.args for found in walked_by(inner)}
    if isinstance(node, ast.Call) and isinstance(node.func, ast.Attribute):
        return {ast.unparse(node.func.value)}
    return {ast.unparse(node)}


def changed_in(node):
    """What is changed in a loop, as it is written."""
    found = set()
    for inner in ast.walk(node):
        if isinstance(inner, ast.Call) and isinstance(inner.func, ast.Attribute) and inner.func.attr in CHANGES:
            found.add(ast.unparse(inner.func.value))
        if isinstance(inner, ast.Subscript) and isinstance(inner.ctx, ast.Store):
            found.add(ast.unparse(inner.value))
    return found


def own_methods_and_values(all_trees):
    methods, values = set(), set()
    for tree in all_trees:
        for node in ast.walk(tree):
            if isinstance(node, ast.ClassDef):
                methods |= {inner.name for inner in node.body if isinstance(inner, ast.FunctionDef)}
            if isinstance(node, ast.Attribute) and isinstance(node.ctx, ast.Store):
                values.add(node.attr)
    return methods, values


class Language(unittest.TestCase):
    def check_each(self, check):
        for path, tree in trees().items():
            for node in ast.walk(tree):
                try:
                    check(tree, node)
                except AssertionError as error:
                    place = "%s, line %s: %s" % (path.name, getattr(node, "lineno", "?"), type(node).__name__)
                    raise AssertionError("%s: %s" % (place, error)) from None

    def test_files_and_signs(self):
        self.assertIn(PACKAGE / "__init__.py", files())
        self.assertIn(PACKAGE / "plans.py", files())
        for path in files():
            with self.subTest(file=path.name):
                self.assertRegex(path.name, r"^([a-z][a-z0-9_]*|__init__|__main__)\.py$")
                self.assertFalse(re.match(r"test|site|conftest|.*customize", path.name))
                self.assertFalse(hasattr(builtins, path.stem) and path.stem != "__init__")
                text = path.read_text(encoding="utf-8")
                self.assertRegex(text, r"\A[ -~\n]*\Z")
                self.assertIsNone(re.search(WORDS, text))
                rows = text.split("\n")
                self.assertLessEqual(len(rows), 400)
                self.assertLessEqual(max(len(row) for row in rows), 120)

    def test_tops(self):
        for path, tree in trees().items():
            names = bound_at_top(tree)
            self.assertEqual(len(names), len(set(names)), path.name)
            for k, node in enumerate(tree.body):
                with self.subTest(file=path.name, line=node.lineno):
                    if isinstance(node, ast.Expr):
                        self.assertTrue(k == 0 and isinstance(node.value, ast.Constant))
                    elif isinstance(node, ast.Assign):
                        self.assertTrue(is_plain(node.value))
                    else:
                        self.assertIsInstance(node, (ast.ImportFrom, ast.FunctionDef, ast.ClassDef))

    def test_imports(self):
        drawn = {}
        for path, tree in trees().items():
            drawn[path.stem] = []
            for node in ast.walk(tree):
                if isinstance(node, ast.ImportFrom):
                    self.assertIn(node, tree.body)
                    self.assertEqual((node.level, node.module.split(".")[0]), (0, "goodsplans"))
                    source = node.module.split(".")[1]
                    drawn[path.stem].append(source)
                    defined = ast.parse((PACKAGE / (source + ".py")).read_text(encoding="utf-8"))
                    defined.body = [inner for inner in defined.body if not isinstance(inner, ast.ImportFrom)]
                    for alias in node.names:
                        self.assertIn(alias.name, bound_at_top(defined))
        while drawn:
            ends = [stem for stem in drawn if not any(source in drawn for source in drawn[stem])]
            self.assertTrue(ends, "files draw from one another: %s" % sorted(drawn))
            drawn = {stem: drawn[stem] for stem in drawn if stem not in ends}

    def test_functions_and_classes(self):
        def check(tree, node):
            if isinstance(node, ast.FunctionDef):
                self.assertLessEqual(node.end_lineno - node.lineno + 1, 40)
                self.assertEqual(node.decorator_list, [])
                given = node.args
                self.assertFalse(given.vararg or given.kwarg or given.kwonlyargs or given.posonlyargs)
                self.assertTrue(all(is_plain(value) for value in given.defaults))
            if isinstance(node, ast.ClassDef):
                self.assertIn(node, tree.body)
                self.assertEqual((node.decorator_list, node.keywords), ([], []))
                self.assertLessEqual(len(node.bases), 1)
                self.assertTrue(all(isinstance(inner, ast.FunctionDef) for inner in node.body))
                names = [inner.name for inner in node.body]
                self.assertEqual(len(names), len(set(names)))

        self.check_each(check)

    def test_statements(self):
        def check(tree, node):
            if isinstance(node, ast.stmt):
                self.assertIsInstance(node, STATEMENTS)
            if isinstance(node, ast.Expr) and node is not tree.body[0]:
                self.assertIsInstance(node.value, ast.Call)
            if isinstance(node, ast.Assign):
                self.assertEqual(len(node.targets), 1)
            if isinstance(node, (ast.For, ast.While)):
                self.assertEqual(node.orelse, [])
            if isinstance(node, ast.Try):
                self.assertEqual(node.finalbody, [])
            if isinstance(node, ast.ExceptHandler):
                self.assertIsNotNone(node.type)

        self.check_each(check)

    def test_expressions(self):
        def check(tree, node):
            if isinstance(node, ast.expr):
                self.assertIsInstance(node, EXPRESSIONS)
            if isinstance(node, ast.Constant):
                self.assertIn(type(node.value), (int, str, bool, type(None)))
                self.assertFalse(isinstance(node.value, str) and "%" in node.value)
            if isinstance(node, ast.BinOp):
                self.assertNotIsInstance(node.op, (ast.Div, ast.MatMult))
            if isinstance(node, ast.BinOp) and isinstance(node.op, ast.Pow):
                self.assertTrue(isinstance(node.right, ast.Constant) and 0 <= node.right.value <= 64)
            if isinstance(node, ast.ListComp):
                self.assertEqual(len(node.generators), 1)
                self.assertLessEqual(len(node.generators[0].ifs), 1)
            if isinstance(node, ast.Compare) and any(isinstance(op, (ast.Is, ast.IsNot)) for op in node.ops):
                self.assertTrue(all(isinstance(side, ast.Constant) and type(side.value) in (bool, type(None))
                                    for side in node.comparators))

        self.check_each(check)

    def test_names(self):
        def check(tree, node):
            imported = {alias.asname or alias.name for top in tree.body if isinstance(top, ast.ImportFrom)
                        for alias in top.names}
            classes = {top.name for top in tree.body if isinstance(top, ast.ClassDef)}
            name = {ast.Name: "id", ast.arg: "arg", ast.FunctionDef: "name", ast.ClassDef: "name",
                    ast.Attribute: "attr"}.get(type(node))
            if name is None:
                return
            name = getattr(node, name)
            if not (isinstance(node, ast.FunctionDef) and name in SPECIAL):
                self.assertRegex(name, r"^[A-Za-z][A-Za-z0-9_]*$")
            self.assertNotIn(name, UNUSED)
            bound = isinstance(node, ast.arg) or isinstance(node, ast.Name) and isinstance(node.ctx, ast.Store)
            if bound:
                self.assertFalse(hasattr(builtins, name))
                self.assertNotIn(name, imported | classes)
            elif isinstance(node, ast.Name) and hasattr(builtins, name):
                self.assertIn(name, OWN_NAMES)

        self.check_each(check)

    def test_methods_and_values(self):
        methods, values = own_methods_and_values(trees().values())
        self.assertEqual(methods & values, set())
        self.assertEqual(values & TAKEN_VALUES, set())
        python_has = {name for kind in (str, int, list, dict, set, bytes, tuple) for name in dir(kind)}
        self.assertEqual(values & python_has - FREE_VALUES, set())
        self.assertEqual(methods & python_has - METHODS - {"add", "discard"} - set(SPECIAL), set())

        def check(tree, node):
            if isinstance(node, ast.Attribute):
                self.assertIn(node.attr, METHODS | methods | values)

        self.check_each(check)

    def test_sets_and_walks(self):
        around = {}

        def check(tree, node):
            for inner in ast.iter_child_nodes(node):
                around[inner] = node
            if not isinstance(node, ast.Call):
                return
            outer = around[node]
            caller = outer.func.id if isinstance(outer, ast.Call) and isinstance(outer.func, ast.Name) else None
            if isinstance(node.func, ast.Name) and node.func.id in ("set", "frozenset"):
                self.assertTrue(caller in ("sorted", "len") or isinstance(outer, (ast.Compare, ast.BinOp)))
            walked = isinstance(node.func, ast.Name) and node.func.id in WALKED
            walked = walked or isinstance(node.func, ast.Attribute) and node.func.attr in ("items", "keys", "values")
            if walked:
                self.assertTrue(isinstance(outer, (ast.For, ast.comprehension)) or caller in (
                    "list", "tuple", "dict", "sorted", "sum", "any", "all", "enumerate", "zip", "min", "max"))

        self.check_each(check)

    def test_what_a_loop_walks_is_not_changed_in_it(self):
        def check(tree, node):
            if isinstance(node, ast.For):
                self.assertEqual(walked_by(node.iter) & changed_in(node), set())

        self.check_each(check)

    def test_lists_and_dicts_of_a_top_hold_none_and_are_not_changed(self):
        for path, tree in trees().items():
            kept = set()
            for node in tree.body:
                if isinstance(node, ast.Assign) and isinstance(node.value, (ast.List, ast.Dict)):
                    kept |= {target.id for target in node.targets}
                    inner = [found for found in ast.walk(node.value) if found is not node.value]
                    self.assertFalse(any(isinstance(found, (ast.List, ast.Dict)) for found in inner), path.name)
            for node in ast.walk(tree):
                if isinstance(node, ast.Return) and isinstance(node.value, ast.Name):
                    self.assertNotIn(node.value.id, kept)
                if isinstance(node, ast.Subscript) and isinstance(node.value, ast.Name) and node.value.id in kept:
                    self.assertIsInstance(node.ctx, ast.Load)
                if isinstance(node, ast.Attribute) and isinstance(node.value, ast.Name) and node.value.id in kept:
                    self.assertIn(node.attr, ("get", "items", "keys", "values", "count", "index", "copy"))

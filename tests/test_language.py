"""Holds the package's files against the rules of the language that a walk over their trees can see."""

import ast
import builtins
import re
import unittest
from pathlib import Path

PACKAGE = Path(__file__).resolve().parent.parent / "penwright"

STATEMENTS = (
    ast.Assign, ast.AugAssign, ast.If, ast.While, ast.For, ast.Return, ast.Break, ast.Continue, ast.Pass, ast.Raise,
    ast.Try, ast.Expr, ast.FunctionDef, ast.ClassDef, ast.ImportFrom,
)
EXPRESSIONS = (
    ast.Constant, ast.List, ast.Tuple, ast.Dict, ast.Set, ast.BinOp, ast.UnaryOp, ast.Compare, ast.BoolOp, ast.IfExp,
    ast.Call, ast.Attribute, ast.Subscript, ast.Slice, ast.ListComp, ast.JoinedStr, ast.FormattedValue, ast.Name,
    ast.Lambda,
)
PLAIN_VALUES = (ast.Constant, ast.List, ast.Tuple, ast.Dict, ast.UnaryOp, ast.USub, ast.Name, ast.Load)
OWN_NAMES = set(
    "len range enumerate zip min max sum abs sorted reversed int str bool list tuple dict set frozenset isinstance ord"
    " repr any all divmod Exception ValueError TypeError KeyError IndexError LookupError ZeroDivisionError"
    " ArithmeticError OverflowError RuntimeError NotImplementedError AttributeError StopIteration".split()
)
OWN_METHODS = set(
    "append clear copy count endswith extend find get index insert isalnum isalpha isdigit islower isspace isupper items"
    " join keys ljust lower lstrip partition pop remove replace reverse rfind rjust rpartition rsplit rstrip setdefault"
    " split splitlines startswith strip update upper values zfill bit_length".split()
)
UNUSED_NAMES = set(
    "register mro elements open input version_info with_traceback add_note attrgetter breakpoint builtins compile"
    " copyright credits delattr dir eval exec exit gc getattr globals hasattr help id importlib license locals"
    " methodcaller os quit setattr super type vars sys chr format format_map".split()
)
UNUSED_WORDS = (
    r"\b(type|typing|typing_extensions|enum|Enum|IntEnum|StrEnum|Flag|IntFlag|Generic|Protocol|ABC|ABCMeta|namedtuple"
    r"|NamedTuple|TypedDict|TYPE_CHECKING|abstractmethod)\b|dataclass|overload|contextmanager"
)
CHANGING = ("append", "clear", "extend", "insert", "pop", "remove", "reverse", "setdefault", "update")
METHODS_WITH_UNDERSCORES = ("__init__", "__eq__", "__repr__", "__str__", "__len__")


def source_files():
    return sorted(path for path in PACKAGE.iterdir() if path.name != "__pycache__")


def top_names(tree):
    names = []
    for node in tree.body:
        if isinstance(node, (ast.FunctionDef, ast.ClassDef)):
            names.append(node.name)
        elif isinstance(node, ast.Assign):
            names.append(node.targets[0].id)
        elif isinstance(node, ast.ImportFrom):
            names.extend(alias.name for alias in node.names)
    return names


def bound_names(tree):
    for node in ast.walk(tree):
        if isinstance(node, (ast.FunctionDef, ast.ClassDef)):
            yield node.name
        elif isinstance(node, ast.arg):
            yield node.arg
        elif isinstance(node, ast.Name) and isinstance(node.ctx, ast.Store):
            yield node.id
        elif isinstance(node, ast.ExceptHandler) and node.name:
            yield node.name


def local_names(function):
    names = {node.arg for node in ast.walk(function) if isinstance(node, ast.arg)}
    return names | {node.id for node in ast.walk(function) if isinstance(node, ast.Name) and isinstance(node.ctx, ast.Store)}


def called_name(call):
    """How a call's function or method is called."""
    return call.func.id if isinstance(call.func, ast.Name) else getattr(call.func, "attr", None)


def is_walked_at_once(call, node):
    if isinstance(node, (ast.For, ast.comprehension)):
        return node.iter is call
    if not isinstance(node, ast.Call) or call not in node.args:
        return False
    if called_name(node) == "join":
        return isinstance(node.func, ast.Attribute) and isinstance(node.func.value, ast.Constant)
    if called_name(node) in ("min", "max"):
        return node.args == [call]
    walkers = ("list", "tuple", "dict", "sorted", "sum", "any", "all", "enumerate", "zip")
    return called_name(node) in walkers and (node.args[0] is call or called_name(node) == "zip")


def is_asked_at_once(call, above):
    node = above[call]
    while isinstance(node, ast.BinOp) and isinstance(node.op, (ast.Sub, ast.BitAnd, ast.BitOr, ast.BitXor)):
        node = above[node]
    if isinstance(node, ast.Compare):
        return all(isinstance(op, (ast.In, ast.NotIn, ast.Eq, ast.NotEq)) for op in node.ops)
    return isinstance(node, ast.Call) and called_name(node) in ("sorted", "len") and not node.keywords


def is_only_read(name, node):
    """Whether a list or dict of a file's top is only read, or copied, where its name stands."""
    if isinstance(node, ast.Subscript):
        return node.value is name and isinstance(node.ctx, ast.Load)
    if isinstance(node, ast.Compare):
        return all(isinstance(op, (ast.In, ast.NotIn, ast.Eq, ast.NotEq)) for op in node.ops)
    if isinstance(node, (ast.For, ast.comprehension)):
        return node.iter is name
    if isinstance(node, ast.Attribute):
        return node.attr in ("get", "items", "keys", "values", "index", "count", "copy")
    readers = ("len", "list", "dict", "tuple", "sorted", "sum", "min", "max", "any", "all")
    return isinstance(node, ast.Call) and isinstance(node.func, ast.Name) and node.func.id in readers


def changed_names(statement):
    """The names of what a statement changes by a method or an index."""
    for node in ast.walk(statement):
        if isinstance(node, ast.Call) and isinstance(node.func, ast.Attribute) and node.func.attr in CHANGING:
            if isinstance(node.func.value, ast.Name):
                yield node.func.value.id
        if isinstance(node, ast.Subscript) and isinstance(node.ctx, ast.Store) and isinstance(node.value, ast.Name):
            yield node.value.id


class Language(unittest.TestCase):
    def setUp(self):
        self.texts = {path: path.read_text(encoding="utf-8") for path in source_files()}
        self.trees = {path: ast.parse(text) for path, text in self.texts.items()}

    def every_node(self):
        for path, tree in self.trees.items():
            for node in ast.walk(tree):
                yield f"{path.name}:{getattr(node, 'lineno', 0)}", node

    def refuse(self, where, rule, wrong):
        self.assertFalse(wrong, f"{where}: {rule}")

    def test_files(self):
        for path, text in self.texts.items():
            self.assertRegex(path.name, r"^[a-z][a-z0-9_]*\.py$|^__init__\.py$|^__main__\.py$", "L1, L14")
            self.assertLessEqual(len(text.splitlines()), 400, f"{path.name}: L10")
            for number, line in enumerate(text.split("\n"), start=1):
                where = f"{path.name}:{number}"
                self.refuse(where, "L10", len(line) > 120)
                self.refuse(where, "L14", any(not " " <= sign <= "~" for sign in line))
                self.refuse(where, "L17", re.search(UNUSED_WORDS, line))
        self.assertIn(PACKAGE / "__init__.py", self.texts)

    def test_tops(self):
        for path, tree in self.trees.items():
            names = top_names(tree)
            self.assertEqual(len(names), len(set(names)), f"{path.name}: L15")
            for node in tree.body:
                where = f"{path.name}:{node.lineno}"
                if isinstance(node, ast.Assign):
                    plain = all(isinstance(part, PLAIN_VALUES) for part in ast.walk(node.value))
                    self.refuse(where, "L3", not plain or not isinstance(node.targets[0], ast.Name))
                elif isinstance(node, ast.Expr):
                    self.refuse(where, "L3", node is not tree.body[0] or not isinstance(node.value, ast.Constant))
                else:
                    self.refuse(where, "L3", not isinstance(node, (ast.FunctionDef, ast.ClassDef, ast.ImportFrom)))

    def test_lists_and_dicts_of_the_top_are_only_read(self):
        for path, tree in self.trees.items():
            above = {child: node for node in ast.walk(tree) for child in ast.iter_child_nodes(node)}
            tables = [node for node in tree.body if isinstance(node, ast.Assign) and isinstance(node.value, (ast.List, ast.Dict))]
            names = [node.targets[0].id for node in tables]
            for table in tables:
                inside = [part for part in ast.walk(table.value) if isinstance(part, (ast.List, ast.Dict))]
                self.refuse(f"{path.name}:{table.lineno}", "L15", len(inside) > 1)
            for node in ast.walk(tree):
                if isinstance(node, ast.Name) and node.id in names and isinstance(node.ctx, ast.Load):
                    self.refuse(f"{path.name}:{node.lineno}", f"L15 {node.id}", not is_only_read(node, above[node]))

    def test_functions_of_the_top_stand_above_where_they_are_kept(self):
        for path, tree in self.trees.items():
            defined = {node.name: node.lineno for node in tree.body if isinstance(node, ast.FunctionDef)}
            for node in tree.body:
                if isinstance(node, ast.Assign):
                    for part in ast.walk(node.value):
                        if isinstance(part, ast.Name):
                            self.refuse(f"{path.name}:{part.lineno}", "L3", defined.get(part.id, part.lineno) >= part.lineno)

    def test_imports(self):
        drawn = {path.stem: [] for path in self.trees}
        for path, tree in self.trees.items():
            for node in ast.walk(tree):
                self.refuse(path.name, "L16", isinstance(node, ast.Import))
                if isinstance(node, ast.ImportFrom):
                    where = f"{path.name}:{node.lineno}"
                    self.refuse(where, "L2", node not in tree.body or node.level or not node.module.startswith("penwright."))
                    source = node.module.partition(".")[2]
                    drawn[path.stem].append(source)
                    defined = top_names(ast.parse((PACKAGE / f"{source}.py").read_text()))
                    for alias in node.names:
                        self.refuse(where, "L16", alias.asname or alias.name not in defined)
        seen = []
        while len(seen) < len(drawn):
            free = [name for name in drawn if name not in seen and all(other in seen for other in drawn[name])]
            self.assertTrue(free, "L16: files draw from one another")
            seen.extend(free)

    def test_imported_names_stand_where_they_are_defined(self):
        for path, tree in self.trees.items():
            for node in tree.body:
                if isinstance(node, ast.ImportFrom):
                    source = self.trees[PACKAGE / f"{node.module.partition('.')[2]}.py"]
                    again = [alias.name for part in source.body if isinstance(part, ast.ImportFrom) for alias in part.names]
                    for alias in node.names:
                        self.refuse(f"{path.name}:{node.lineno}", "L16", alias.name in again)

    def test_statements_and_expressions(self):
        for where, node in self.every_node():
            if isinstance(node, ast.stmt):
                self.refuse(where, "L6", not isinstance(node, STATEMENTS))
            if isinstance(node, ast.expr):
                self.refuse(where, "L7", not isinstance(node, EXPRESSIONS))
            if isinstance(node, ast.Assign):
                self.refuse(where, "L6", len(node.targets) != 1)
            if isinstance(node, (ast.For, ast.While)):
                self.refuse(where, "L6", node.orelse)
            if isinstance(node, ast.Try):
                self.refuse(where, "L6", node.finalbody)
            if isinstance(node, ast.Constant):
                self.refuse(where, "L7", node.value is not None and not isinstance(node.value, (bool, int, str)))
                self.refuse(where, "L27", isinstance(node.value, str) and "%" in node.value)
            if isinstance(node, ast.BinOp):
                self.refuse(where, "L7", isinstance(node.op, (ast.Div, ast.MatMult)))
                self.refuse(where, "L27", isinstance(node.op, ast.Pow) and not self.is_small_power(node))
            if isinstance(node, ast.ListComp):
                self.refuse(where, "L7", len(node.generators) != 1 or len(node.generators[0].ifs) > 1)
            if isinstance(node, ast.FormattedValue):
                self.refuse(where, "L7", not isinstance(node.value, ast.Name) or node.format_spec)
            if isinstance(node, ast.Compare) and any(isinstance(op, (ast.Is, ast.IsNot)) for op in node.ops):
                beside = [node.left] + node.comparators
                plain = [isinstance(part, ast.Constant) and part.value in (None, True, False) for part in beside]
                self.refuse(where, "L20", not any(plain))

    def is_small_power(self, node):
        return isinstance(node.right, ast.Constant) and 0 <= node.right.value <= 64

    def test_bare_statements_are_calls(self):
        for path, tree in self.trees.items():
            for node in ast.walk(tree):
                if isinstance(node, ast.Expr) and node is not tree.body[0]:
                    self.refuse(f"{path.name}:{node.lineno}", "L6", not isinstance(node.value, ast.Call))

    def test_functions_and_classes(self):
        for where, node in self.every_node():
            if isinstance(node, (ast.FunctionDef, ast.Lambda)):
                args = node.args
                self.refuse(where, "L4", args.vararg or args.kwarg or args.kwonlyargs or args.posonlyargs)
            if isinstance(node, ast.FunctionDef):
                self.refuse(where, "L4", node.decorator_list)
                self.refuse(where, "L10", node.end_lineno - node.lineno + 1 > 40)
            if isinstance(node, ast.ClassDef):
                self.refuse(where, "L5", node.decorator_list or node.keywords or len(node.bases) > 1)
                self.refuse(where, "L5", any(not isinstance(part, (ast.FunctionDef, ast.Pass)) for part in node.body))

    def test_errors(self):
        for where, node in self.every_node():
            if isinstance(node, ast.ExceptHandler):
                self.refuse(where, "L19", node.type is None)
                taken = [part.id for part in ast.walk(node.type) if isinstance(part, ast.Name)]
                self.refuse(where, "L19", {"Exception", "TypeError"} & set(taken))
            if isinstance(node, ast.Raise):
                self.refuse(where, "L19", not isinstance(node.exc, ast.Call))
            if isinstance(node, ast.Try):
                taken = {part.id for handler in node.handlers for part in ast.walk(handler.type) if isinstance(part, ast.Name)}
                if taken & {"ValueError", "LookupError", "IndexError"}:
                    calls = [called_name(part) for part in ast.walk(node.body[0]) if isinstance(part, ast.Call)]
                    self.refuse(where, "L19", len(node.body) > 1 or set(calls) - {"int", "str", "index", "remove"})

    def test_names(self):
        for path, tree in self.trees.items():
            for name in bound_names(tree):
                if name not in METHODS_WITH_UNDERSCORES:
                    self.assertRegex(name, r"^[A-Za-z][A-Za-z0-9_]*$", f"{path.name}: L12")
                    self.refuse(path.name, f"L8, L15 {name}", hasattr(builtins, name))
            self.check_locals(path, tree)
        own = {name for tree in self.trees.values() for name in bound_names(tree)}
        values = {node.attr for _, node in self.every_node() if isinstance(node, ast.Attribute) and isinstance(node.ctx, ast.Store)}
        for where, node in self.every_node():
            if isinstance(node, ast.Name):
                self.refuse(where, f"L17 {node.id}", node.id in UNUSED_NAMES)
                self.refuse(where, f"L8 {node.id}", hasattr(builtins, node.id) and node.id not in OWN_NAMES)
            if isinstance(node, ast.Attribute):
                self.refuse(where, f"L17 {node.attr}", node.attr in UNUSED_NAMES)
                self.refuse(where, f"L25 {node.attr}", node.attr not in OWN_METHODS | own | values)

    def check_locals(self, path, tree):
        taken = [node.name for node in tree.body if isinstance(node, ast.ClassDef)]
        taken += [alias.name for node in tree.body if isinstance(node, ast.ImportFrom) for alias in node.names]
        for node in ast.walk(tree):
            if isinstance(node, ast.FunctionDef):
                self.refuse(f"{path.name}:{node.lineno}", "L15", local_names(node) & set(taken))

    def test_what_is_walked_at_once_and_sets(self):
        for path, tree in self.trees.items():
            above = {child: node for node in ast.walk(tree) for child in ast.iter_child_nodes(node)}
            for node in ast.walk(tree):
                if isinstance(node, ast.Call):
                    where = f"{path.name}:{node.lineno}"
                    name = called_name(node)
                    if name in ("zip", "enumerate", "reversed", "range", "items", "keys", "values"):
                        self.refuse(where, "L23", not is_walked_at_once(node, above[node]))
                    if name in ("set", "frozenset"):
                        self.refuse(where, "L24", not is_asked_at_once(node, above))
                if isinstance(node, (ast.Set, ast.SetComp)):
                    self.refuse(f"{path.name}:{node.lineno}", "L13, L24", True)

    def test_loops_do_not_change_what_they_walk(self):
        for where, node in self.every_node():
            if isinstance(node, ast.For):
                walked = {part.id for part in ast.walk(node.iter) if isinstance(part, ast.Name)}
                changed = {name for part in node.body for name in changed_names(part)}
                self.refuse(where, f"L23 {walked & changed}", walked & changed)

    def test_own_methods_and_values(self):
        methods, values = set(), set()
        for _, node in self.every_node():
            if isinstance(node, ast.ClassDef):
                methods.update(part.name for part in node.body if isinstance(part, ast.FunctionDef))
            if isinstance(node, ast.Attribute) and isinstance(node.ctx, ast.Store):
                values.add(node.attr)
        self.assertFalse(methods & values, "L18")
        of_python = {name for kind in (str, int, list, dict, set, bytes) for name in dir(kind)}
        free = OWN_METHODS | {"add", "discard"} | set(METHODS_WITH_UNDERSCORES)
        self.assertFalse((methods - free) & of_python, "L26")
        allowed = set("count index title find get join lower upper split strip copy add".split())
        self.assertFalse((values - allowed) & of_python, "L26")

"""Finds where the package's files leave the part of Python that they keep to.

It sees most of the rules L1 to L28, not all: L19, L22, L23 and L28 only in part, and of L13 and L24 that sets
are not used at all.
"""

import ast
import builtins
import re

PACKAGE = "ledgerdb"

BUILTIN_NAMES = set(
    "len range enumerate zip min max sum abs sorted reversed int str bool list tuple dict isinstance ord repr any "
    "all divmod Exception ValueError TypeError KeyError IndexError LookupError ZeroDivisionError ArithmeticError "
    "OverflowError RuntimeError NotImplementedError AttributeError StopIteration".split())
METHODS = set(
    "append clear copy count endswith extend find get index insert isalnum isalpha isdigit islower isspace isupper "
    "items join keys ljust lower lstrip partition pop remove replace reverse rfind rjust rpartition rsplit rstrip "
    "setdefault split splitlines startswith strip update upper values zfill bit_length".split())
CHANGING = set("append clear extend insert pop remove reverse setdefault update".split())
VALUES_LIKE_METHODS = set("count index title find get join lower upper split strip copy add".split())
DUNDER_METHODS = set("__init__ __eq__ __repr__ __str__ __len__".split())
UNUSED_NAMES = set(
    "register mro elements open input version_info with_traceback add_note attrgetter breakpoint builtins compile "
    "copyright credits delattr dir eval exec exit gc getattr globals hasattr help id importlib license locals "
    "methodcaller os quit setattr super type vars sys __name__ format format_map args encode".split())
UNUSED_WORDS = re.compile(
    r"\b(type|typing|typing_extensions|enum|Enum|IntEnum|StrEnum|Flag|IntFlag|Generic|Protocol|ABC|ABCMeta|"
    r"namedtuple|NamedTuple|TypedDict|TYPE_CHECKING|abstractmethod)\b|dataclass|overload|contextmanager")
UNUSED_FILES = set("test tests testing site conftest sitecustomize usercustomize".split()) | set(dir(builtins))
PYTHONS_OWN = set().union(*[dir(kind) for kind in (str, int, list, dict, set, bytes)])

WALKED_AT_ONCE = set("zip enumerate reversed range items keys values".split())
WALKERS = set("list tuple dict sorted sum any all enumerate zip".split())
KEYWORDS = {"sorted": {"key", "reverse"}, "min": {"key", "default"}, "max": {"key", "default"}, "sum": {"start"},
            "enumerate": {"start"}, "zip": {"strict"}}

STATEMENTS = (
    ast.FunctionDef, ast.ClassDef, ast.Return, ast.Assign, ast.AugAssign, ast.For, ast.While, ast.If, ast.Raise,
    ast.Try, ast.ImportFrom, ast.Expr, ast.Pass, ast.Break, ast.Continue)
EXPRESSIONS = (
    ast.BoolOp, ast.BinOp, ast.UnaryOp, ast.Lambda, ast.IfExp, ast.Dict, ast.ListComp, ast.Compare, ast.Call,
    ast.FormattedValue, ast.JoinedStr, ast.Constant, ast.Attribute, ast.Subscript, ast.Name, ast.List, ast.Tuple,
    ast.Slice)


class Findings:
    def __init__(self, name, tree):
        self.name = name
        self.tree = tree
        self.found = []

    def add(self, rule, line, what):
        self.found.append(f"{self.name}:{line}: {rule} {what}")


def check_package(sources):
    """All findings, of a dict from file names to their texts."""
    trees = {name: ast.parse(text) for name, text in sources.items()}
    own_methods = {node.name for tree in trees.values() for top in tree.body if isinstance(top, ast.ClassDef)
                   for node in top.body if isinstance(node, ast.FunctionDef)}
    found = []
    for name, text in sorted(sources.items()):
        findings = Findings(name, trees[name])
        check_file(findings, text)
        check_top(findings)
        check_imports(findings, trees)
        for node in ast.walk(trees[name]):
            check_node(findings, node, own_methods)
        check_locals(findings)
        check_uses(findings)
        found += findings.found
    return found + check_kinds_of_names(trees, own_methods) + check_circles(trees)


def check_file(findings, text):
    stem = findings.name[:-3]
    if not re.fullmatch(r"[a-z0-9_]+\.py", findings.name) or stem in UNUSED_FILES or stem.startswith("test_"):
        findings.add("L14", 0, "file name")
    lines = text.split("\n")
    if len(lines) - 1 > 400:
        findings.add("L10", 400, "long file")
    for number, line in enumerate(lines, 1):
        if len(line) > 120:
            findings.add("L10", number, "long line")
        if any(not " " <= sign <= "~" for sign in line):
            findings.add("L14", number, "sign")
        if UNUSED_WORDS.search(line):
            findings.add("L17", number, "word")
        if re.search(r"\\[^nt\\'\"]", line):
            findings.add("L27", number, "escape")


def is_docstring(node):
    return isinstance(node, ast.Expr) and isinstance(node.value, ast.Constant) and isinstance(node.value.value, str)


def is_plain(node, nested):
    if isinstance(node, (ast.List, ast.Dict)) and nested:
        return False
    if isinstance(node, (ast.List, ast.Tuple)):
        return all(is_plain(part, True) for part in node.elts)
    if isinstance(node, ast.Dict):
        return all(is_plain(part, True) for part in node.keys + node.values)
    if isinstance(node, ast.UnaryOp):
        return isinstance(node.op, ast.USub) and isinstance(node.operand, ast.Constant)
    return isinstance(node, (ast.Constant, ast.Name))


def check_top(findings):
    bound = []
    for number, node in enumerate(findings.tree.body):
        if isinstance(node, ast.Assign):
            bound += [target.id for target in node.targets if isinstance(target, ast.Name)]
            if not is_plain(node.value, False):
                findings.add("L3", node.lineno, "no plain value")
        elif isinstance(node, (ast.FunctionDef, ast.ClassDef)):
            bound.append(node.name)
        elif isinstance(node, ast.ImportFrom):
            bound += [alias.name for alias in node.names]
        elif not (number == 0 and is_docstring(node)):
            findings.add("L3", node.lineno, "statement at the top")
    for name in set(bound):
        if bound.count(name) > 1:
            findings.add("L15", 0, f"{name} is bound twice")


def names_of_top(tree):
    names = [node.name for node in tree.body if isinstance(node, (ast.FunctionDef, ast.ClassDef))]
    return names + [node.targets[0].id for node in tree.body if isinstance(node, ast.Assign)]


def file_of(module):
    return module[len(PACKAGE) + 1:] + ".py"


def check_imports(findings, trees):
    for node in ast.walk(findings.tree):
        if isinstance(node, ast.ImportFrom):
            if node not in findings.tree.body or node.level or not node.module.startswith(PACKAGE + "."):
                findings.add("L2", node.lineno, "import")
                continue
            there = names_of_top(trees[file_of(node.module)]) if file_of(node.module) in trees else []
            for alias in node.names:
                if alias.asname or alias.name not in there:
                    findings.add("L16", node.lineno, f"{alias.name} is not defined there")


def check_circles(trees):
    draws = {name: [file_of(node.module) for node in tree.body if isinstance(node, ast.ImportFrom) and node.module]
             for name, tree in trees.items()}
    found = []
    for name in draws:
        reached, ahead = set(), list(draws[name])
        while ahead:
            reached.add(ahead[-1])
            ahead += [other for other in draws.get(ahead.pop(), []) if other not in reached]
        if name in reached:
            found.append(f"{name}:0: L16 draws from itself")
    return found


def check_node(findings, node, own_methods):
    if isinstance(node, ast.stmt) and not isinstance(node, STATEMENTS):
        findings.add("L6", node.lineno, node.__class__.__name__)
    if isinstance(node, ast.expr) and not isinstance(node, EXPRESSIONS):
        findings.add("L7", node.lineno, node.__class__.__name__)
    checks = {
        ast.FunctionDef: check_function, ast.ClassDef: check_class, ast.Name: check_name, ast.Constant: check_constant,
        ast.BinOp: check_operator, ast.Compare: check_compare, ast.ListComp: check_comprehension,
        ast.FormattedValue: check_formatted, ast.Try: check_try, ast.Raise: check_raise}
    if node.__class__ in checks:
        checks[node.__class__](findings, node)
    if isinstance(node, ast.Call) and isinstance(node.func, ast.Attribute):
        if node.func.attr not in METHODS | own_methods | DUNDER_METHODS:
            findings.add("L25", node.lineno, node.func.attr)
    if isinstance(node, ast.Attribute) and (node.attr in UNUSED_NAMES or node.attr.startswith("_")):
        if node.attr not in DUNDER_METHODS:
            findings.add("L17", node.lineno, node.attr)
    if isinstance(node, (ast.For, ast.While)) and node.orelse:
        findings.add("L6", node.lineno, "else behind a loop")
    if isinstance(node, ast.Assign):
        if len(node.targets) != 1 or isinstance(node.targets[0], (ast.Tuple, ast.List)):
            findings.add("L6", node.lineno, "more than one target")
    if isinstance(node, ast.Expr) and not isinstance(node.value, ast.Call) and node is not findings.tree.body[0]:
        findings.add("L6", node.lineno, "an expression by itself")


def check_function(findings, node):
    spec = node.args
    if spec.vararg or spec.kwarg or spec.kwonlyargs or spec.posonlyargs or node.decorator_list:
        findings.add("L4", node.lineno, node.name)
    if node.returns or any(arg.annotation for arg in spec.args):
        findings.add("L21", node.lineno, node.name)
    if node.end_lineno - node.lineno + 1 > 40:
        findings.add("L10", node.lineno, "long function")
    check_bound_name(findings, node.lineno, node.name)
    for arg in spec.args:
        check_bound_name(findings, node.lineno, arg.arg)


def check_class(findings, node):
    if len(node.bases) > 1 or node.keywords or node.decorator_list or node not in findings.tree.body:
        findings.add("L5", node.lineno, node.name)
    names = [part.name for part in node.body if isinstance(part, ast.FunctionDef)]
    if not all(isinstance(part, (ast.FunctionDef, ast.Pass)) for part in node.body):
        findings.add("L5", node.lineno, "class body")
    if len(set(names)) != len(names):
        findings.add("L18", node.lineno, "a method stands twice")
    check_bound_name(findings, node.lineno, node.name)


def check_bound_name(findings, line, name):
    if name.startswith("_") and name not in DUNDER_METHODS:
        findings.add("L12", line, name)


def check_name(findings, node):
    check_bound_name(findings, node.lineno, node.id)
    if node.id in UNUSED_NAMES:
        findings.add("L17", node.lineno, node.id)
    elif node.id in dir(builtins) and node.id not in BUILTIN_NAMES:
        findings.add("L8", node.lineno, node.id)


def check_constant(findings, node):
    if node.value is not None and not isinstance(node.value, (bool, int, str)):
        findings.add("L7", node.lineno, "constant")
    if isinstance(node.value, str) and "%" in node.value:
        findings.add("L27", node.lineno, "sign 37")


def check_operator(findings, node):
    if isinstance(node.op, (ast.Div, ast.MatMult)):
        findings.add("L7", node.lineno, "operator")
    if isinstance(node.op, ast.Pow):
        power = node.right
        if not (isinstance(power, ast.Constant) and isinstance(power.value, int) and 0 <= power.value <= 64):
            findings.add("L27", node.lineno, "power")


def check_compare(findings, node):
    for op, right in zip(node.ops, node.comparators):
        if isinstance(op, (ast.Is, ast.IsNot)):
            if not (isinstance(right, ast.Constant) and (right.value is None or isinstance(right.value, bool))):
                findings.add("L20", node.lineno, "is")


def check_comprehension(findings, node):
    if len(node.generators) > 1 or len(node.generators[0].ifs) > 1:
        findings.add("L7", node.lineno, "comprehension")


def check_formatted(findings, node):
    if not isinstance(node.value, ast.Name) or node.format_spec or node.conversion not in (-1, ord("r")):
        findings.add("L7", node.lineno, "f-string")


def check_try(findings, node):
    if node.finalbody:
        findings.add("L6", node.lineno, "finally")
    for handler in node.handlers:
        taken = handler.type.elts if isinstance(handler.type, ast.Tuple) else [handler.type]
        if any(not isinstance(kind, ast.Name) or kind.id in ("Exception", "TypeError") for kind in taken):
            findings.add("L19", handler.lineno, "except")


def check_raise(findings, node):
    if not isinstance(node.exc, ast.Call):
        findings.add("L19", node.lineno, "raise")


def check_locals(findings):
    classes = [node.name for node in findings.tree.body if isinstance(node, ast.ClassDef)]
    imports = [alias.name for node in findings.tree.body if isinstance(node, ast.ImportFrom) for alias in node.names]
    taken = set(classes) | set(imports) | set(dir(builtins))
    for node in ast.walk(findings.tree):
        if isinstance(node, ast.Name) and isinstance(node.ctx, ast.Store) and node.id in taken:
            findings.add("L15", node.lineno, node.id)
        if isinstance(node, ast.arg) and node.arg in taken:
            findings.add("L15", node.lineno, node.arg)
        if isinstance(node, (ast.FunctionDef, ast.ClassDef)) and node.name in dir(builtins):
            if node in findings.tree.body:
                findings.add("L15", node.lineno, node.name)
    check_top_lists(findings)


def check_top_lists(findings):
    kept = {node.targets[0].id for node in findings.tree.body
            if isinstance(node, ast.Assign) and isinstance(node.value, (ast.List, ast.Dict))}
    for node in ast.walk(findings.tree):
        if isinstance(node, ast.Subscript) and isinstance(node.ctx, ast.Store):
            if isinstance(node.value, ast.Name) and node.value.id in kept:
                findings.add("L15", node.lineno, "a list of the top is changed")
        if isinstance(node, ast.Call) and isinstance(node.func, ast.Attribute) and node.func.attr in CHANGING:
            if isinstance(node.func.value, ast.Name) and node.func.value.id in kept:
                findings.add("L15", node.lineno, "a list of the top is changed")


def called_name(node):
    """The name by which a call calls: a plain one or a method's; else an empty text."""
    if not isinstance(node, ast.Call):
        return ""
    return node.func.id if isinstance(node.func, ast.Name) else getattr(node.func, "attr", "")


def check_uses(findings):
    parents = {child: node for node in ast.walk(findings.tree) for child in ast.iter_child_nodes(node)}
    kept = {node.targets[0].id for node in findings.tree.body
            if isinstance(node, ast.Assign) and isinstance(node.value, (ast.List, ast.Dict))}
    for node in ast.walk(findings.tree):
        if called_name(node) in WALKED_AT_ONCE and not is_walked(node, parents[node]):
            findings.add("L23", node.lineno, called_name(node))
        if isinstance(node, ast.Call) and (called_name(node) in METHODS or called_name(node) in BUILTIN_NAMES):
            if any(keyword.arg not in KEYWORDS.get(called_name(node), ()) for keyword in node.keywords):
                findings.add("L22", node.lineno, called_name(node))
        if isinstance(node, ast.Name) and isinstance(node.ctx, ast.Load):
            if node.id in BUILTIN_NAMES and not is_used_as_it_is(node, parents[node], parents):
                findings.add("L22", node.lineno, f"{node.id} is kept")
            if node.id in kept and not is_only_read(node, parents[node]):
                findings.add("L15", node.lineno, f"{node.id} is handed on")


def is_walked(node, parent):
    if isinstance(parent, (ast.For, ast.comprehension)):
        return parent.iter is node
    if called_name(parent) in WALKERS:
        return node in parent.args and (parent.args[0] is node or called_name(parent) == "zip")
    if called_name(parent) in ("min", "max"):
        return parent.args == [node]
    return called_name(parent) == "join" and isinstance(parent.func.value, ast.Constant)


def is_used_as_it_is(node, parent, parents):
    if isinstance(parent, ast.Call) and parent.func is node:
        return True
    if isinstance(parent, ast.Tuple):
        parent = parents[parent]
    return called_name(parent) == "isinstance" or isinstance(parent, (ast.keyword, ast.ExceptHandler, ast.ClassDef))


def is_only_read(node, parent):
    if isinstance(parent, (ast.For, ast.comprehension, ast.Compare)):
        return True
    if isinstance(parent, ast.Subscript):
        return parent.value is node
    if isinstance(parent, ast.Attribute):
        return parent.attr in METHODS - CHANGING
    return called_name(parent) in WALKERS | {"len", "min", "max", "reversed"}


def check_kinds_of_names(trees, own_methods):
    found = []
    for name, tree in trees.items():
        for node in ast.walk(tree):
            if isinstance(node, ast.Attribute) and isinstance(node.ctx, ast.Store):
                if node.attr in own_methods:
                    found.append(f"{name}:{node.lineno}: L18 {node.attr} is a method too")
                if node.attr in PYTHONS_OWN and node.attr not in VALUES_LIKE_METHODS:
                    found.append(f"{name}:{node.lineno}: L26 value {node.attr}")
    for method in sorted(own_methods - METHODS - DUNDER_METHODS - {"add", "discard"}):
        if method in PYTHONS_OWN:
            found.append(f"{PACKAGE}:0: L26 method {method}")
    return found

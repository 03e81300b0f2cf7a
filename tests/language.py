"""Which rules of LANGUAGE.md a source breaks, as far as the text of it tells.

Where a rule leaves open what the package does without, the check is narrower
than the rule: no __main__.py, no annotations, no sets, no list or dict at the
top of a file, no methods with two underscores but __init__.
"""

import ast
import builtins
import re

PACKAGE = "ringcarve"

OWN_NAMES = set(
    "len range enumerate zip min max sum abs sorted reversed int str bool list tuple dict isinstance ord repr any "
    "all divmod Exception ValueError TypeError KeyError IndexError LookupError ZeroDivisionError ArithmeticError "
    "OverflowError RuntimeError NotImplementedError AttributeError StopIteration".split()
)
METHODS = set(
    "append clear copy count endswith extend find get index insert isalnum isalpha isdigit islower isspace isupper "
    "items join keys ljust lower lstrip partition pop remove replace reverse rfind rjust rpartition rsplit rstrip "
    "setdefault split splitlines startswith strip update upper values zfill bit_length".split()
)
KEYWORDS = {
    "sorted": {"key", "reverse"}, "min": {"key", "default"}, "max": {"key", "default"},
    "sum": {"start"}, "enumerate": {"start"}, "zip": {"strict"},
}
UNUSED_NAMES = set(
    "register mro elements open input version_info with_traceback add_note format format_map attrgetter breakpoint "
    "builtins compile copyright credits delattr dir eval exec exit gc getattr globals hasattr help id importlib "
    "license locals methodcaller os quit setattr super type vars sys".split()
)
UNUSED_WORDS = (
    r"\b(type|typing|typing_extensions|enum|Enum|IntEnum|StrEnum|Flag|IntFlag|Generic|Protocol|ABC|ABCMeta"
    r"|namedtuple|NamedTuple|TypedDict|TYPE_CHECKING|abstractmethod)\b|dataclass|overload|contextmanager"
)
UNUSED_FILES = r"tests?|testing|test_.*|site|conftest|sitecustomize|usercustomize"

STATEMENTS = (
    ast.Assign, ast.AugAssign, ast.If, ast.While, ast.For, ast.Return, ast.Break, ast.Continue, ast.Pass,
    ast.Raise, ast.Try, ast.Expr, ast.FunctionDef, ast.ClassDef, ast.ImportFrom,
)
EXPRESSIONS = (
    ast.Constant, ast.Name, ast.BinOp, ast.UnaryOp, ast.BoolOp, ast.Compare, ast.IfExp, ast.Call, ast.Attribute,
    ast.Subscript, ast.Slice, ast.List, ast.Tuple, ast.Dict, ast.ListComp, ast.Lambda, ast.JoinedStr,
    ast.FormattedValue,
)
WALKERS = {"zip", "enumerate", "reversed", "range"}
VIEWS = {"items", "keys", "values"}
CHANGING = {"append", "clear", "extend", "insert", "pop", "remove", "reverse", "setdefault", "update"}
WALKED_FIRST = {"list", "tuple", "dict", "sorted", "sum", "any", "all", "enumerate", "zip"}


def file_faults(name):
    stem, dot, ending = name.partition(".")
    if ending != "py":
        yield "L1", 0
    if stem != "__init__":
        if not re.fullmatch(r"[a-z][a-z0-9_]*", stem) or re.fullmatch(UNUSED_FILES, stem) or hasattr(builtins, stem):
            yield "L14", 0


def text_faults(source):
    rows = source.split("\n")
    if len(rows) > 401:
        yield "L10", 401
    for number, row in enumerate(rows, 1):
        if len(row) > 120:
            yield "L10", number
        if not all(" " <= sign <= "~" for sign in row):
            yield "L14", number
        if re.search(UNUSED_WORDS, row):
            yield "L17", number
        if any(sign not in "nt\\'\"" for sign in re.findall(r"\\(.?)", row)):
            yield "L27", number


def is_docstring(node):
    return isinstance(node, ast.Expr) and isinstance(node.value, ast.Constant) and isinstance(node.value.value, str)


def is_plain(node, defined):
    """A plain value of L3; defined holds the names of the functions above."""
    if isinstance(node, ast.Tuple):
        return all(is_plain(part, defined) for part in node.elts)
    if isinstance(node, ast.UnaryOp):
        return isinstance(node.op, ast.USub) and isinstance(node.operand, ast.Constant)
    return isinstance(node, ast.Constant) or isinstance(node, ast.Name) and node.id in defined


def top_names(tree):
    """The names that a file's top binds, without those it imports."""
    for node in tree.body:
        if isinstance(node, (ast.FunctionDef, ast.ClassDef)):
            yield node.name
        if isinstance(node, ast.Assign):
            yield from (target.id for target in node.targets if isinstance(target, ast.Name))


def imports(tree):
    """Pairs of a module and a name drawn from it."""
    return [
        (node.module, alias.name)
        for node in ast.walk(tree) if isinstance(node, ast.ImportFrom) for alias in node.names
    ]


def top_faults(tree):
    defined = set()
    for number, node in enumerate(tree.body):
        if isinstance(node, ast.FunctionDef):
            defined.add(node.name)
        elif isinstance(node, ast.Assign):
            if not is_plain(node.value, defined):
                yield "L3", node.lineno
        elif not isinstance(node, (ast.ImportFrom, ast.ClassDef)) and not (number == 0 and is_docstring(node)):
            yield "L3", node.lineno
    bound = list(top_names(tree)) + [name for module, name in imports(tree)]
    if len(bound) != len(set(bound)):
        yield "L15", 1


def import_faults(tree):
    for node in ast.walk(tree):
        if isinstance(node, ast.Import):
            yield "L2", node.lineno
        if isinstance(node, ast.ImportFrom):
            if node not in tree.body or node.level or not node.module.startswith(PACKAGE + "."):
                yield "L2", node.lineno
            if any(alias.name == "*" or alias.asname for alias in node.names):
                yield "L2", node.lineno


def function_faults(node):
    given = node.args
    if given.vararg or given.kwarg or given.kwonlyargs or given.posonlyargs:
        yield "L4", node.lineno
    if not all(is_plain(value, ()) for value in given.defaults):
        yield "L4", node.lineno
    if isinstance(node, ast.FunctionDef):
        if node.decorator_list:
            yield "L4", node.lineno
        if node.end_lineno - node.lineno >= 40:
            yield "L10", node.lineno
        if node.returns or any(parameter.annotation for parameter in given.args):
            yield "L21", node.lineno


def class_faults(node, tree):
    if node not in tree.body:
        yield "L15", node.lineno
    if node.decorator_list or node.keywords or len(node.bases) > 1:
        yield "L5", node.lineno
    if not all(isinstance(part, (ast.FunctionDef, ast.Pass)) for part in node.body):
        yield "L5", node.lineno
    for part in node.body:
        if isinstance(part, ast.FunctionDef) and part.name.startswith("__") and part.name != "__init__":
            yield "L28", part.lineno


def statement_faults(node):
    if not isinstance(node, STATEMENTS):
        yield "L6", node.lineno
    if isinstance(node, ast.Expr) and not isinstance(node.value, ast.Call):
        yield "L6", node.lineno
    if isinstance(node, ast.Assign) and len(node.targets) > 1:
        yield "L6", node.lineno
    if isinstance(node, (ast.For, ast.While)) and node.orelse:
        yield "L6", node.lineno
    if isinstance(node, ast.Try):
        if node.finalbody:
            yield "L6", node.lineno
        for handler in node.handlers:
            if not isinstance(handler.type, ast.Name) or handler.type.id in ("Exception", "TypeError"):
                yield "L19", handler.lineno
    if isinstance(node, ast.Raise) and not isinstance(node.exc, ast.Call):
        yield "L19", node.lineno


def expression_faults(node):
    if not isinstance(node, EXPRESSIONS):
        yield ("L24" if isinstance(node, ast.Set) else "L7"), node.lineno
    if isinstance(node, ast.Constant):
        if not (node.value is None or isinstance(node.value, (int, str))):
            yield "L7", node.lineno
        if isinstance(node.value, str) and "%" in node.value:
            yield "L27", node.lineno
    if isinstance(node, ast.BinOp):
        if isinstance(node.op, (ast.Div, ast.MatMult)):
            yield "L7", node.lineno
        if isinstance(node.op, ast.Pow):
            if not isinstance(node.right, ast.Constant) or node.right.value not in range(65):
                yield "L27", node.lineno
    if isinstance(node, ast.ListComp):
        if len(node.generators) > 1 or len(node.generators[0].ifs) > 1:
            yield "L7", node.lineno
    if isinstance(node, ast.FormattedValue):
        if not isinstance(node.value, ast.Name) or node.conversion not in (-1, ord("r")) or node.format_spec:
            yield "L7", node.lineno
    if isinstance(node, ast.Compare):
        for sign, other in zip(node.ops, node.comparators):
            beside = isinstance(other, ast.Constant) and (other.value is None or isinstance(other.value, bool))
            if isinstance(sign, (ast.Is, ast.IsNot)) and not beside:
                yield "L20", node.lineno


def bound_name(node):
    """The name that a node binds, or None."""
    if isinstance(node, ast.Name) and not isinstance(node.ctx, ast.Load):
        return node.id
    if isinstance(node, (ast.FunctionDef, ast.ClassDef, ast.ExceptHandler)):
        return node.name
    if isinstance(node, ast.arg):
        return node.arg
    return None


def name_faults(node, imported):
    name = bound_name(node)
    if name is not None and name != "__init__":
        if not re.fullmatch(r"[A-Za-z][A-Za-z0-9_]*", name):
            yield "L12", node.lineno
        if hasattr(builtins, name) or isinstance(node, (ast.Name, ast.arg)) and name in imported:
            yield "L15", node.lineno
    if isinstance(node, ast.Name):
        if hasattr(builtins, node.id) and node.id not in OWN_NAMES or node.id.startswith("__"):
            yield "L8", node.lineno
        if node.id in UNUSED_NAMES:
            yield "L17", node.lineno
    if isinstance(node, ast.Attribute):
        if node.attr.startswith("_") and node.attr != "__init__":
            yield "L12", node.lineno
        if node.attr in UNUSED_NAMES:
            yield "L17", node.lineno


def call_faults(node, own):
    if isinstance(node.func, ast.Attribute):
        if node.func.attr not in METHODS | own | {"__init__"}:
            yield "L25", node.lineno
        if node.func.attr in METHODS and node.keywords:
            yield "L22", node.lineno
    if isinstance(node.func, ast.Name) and hasattr(builtins, node.func.id):
        if {keyword.arg for keyword in node.keywords} - KEYWORDS.get(node.func.id, set()):
            yield "L22", node.lineno


def is_walker(node):
    if not isinstance(node, ast.Call):
        return False
    if isinstance(node.func, ast.Name):
        return node.func.id in WALKERS
    return isinstance(node.func, ast.Attribute) and node.func.attr in VIEWS


def walked_at_once(node, above):
    """Does the node stand, straight under the one above it, where L23 lets it be walked?"""
    if isinstance(above, (ast.For, ast.comprehension)):
        return above.iter is node
    if not isinstance(above, ast.Call) or node not in above.args:
        return False
    if isinstance(above.func, ast.Attribute):
        return above.func.attr == "join" and isinstance(above.func.value, ast.Constant)
    if isinstance(above.func, ast.Name) and above.func.id in ("min", "max"):
        return len(above.args) == 1
    return isinstance(above.func, ast.Name) and above.func.id in WALKED_FIRST and above.args[0] is node


def kept_faults(tree):
    for above in ast.walk(tree):
        for node in ast.iter_child_nodes(above):
            if is_walker(node) and not walked_at_once(node, above):
                yield "L23", node.lineno
            if isinstance(node, ast.Name) and isinstance(node.ctx, ast.Load) and node.id in OWN_NAMES:
                if isinstance(above, (ast.Assign, ast.Return, ast.List, ast.Dict)):
                    yield "L22", node.lineno
            if isinstance(node, ast.Attribute) and node.attr in METHODS:
                if not isinstance(above, (ast.Call, ast.keyword)) or isinstance(above, ast.Call) and above.func != node:
                    yield "L25", node.lineno


def walked_names(node):
    """The names of what a loop walks, itself or through enumerate, items and their like."""
    if isinstance(node, ast.Name):
        return {node.id}
    if not is_walker(node) or isinstance(node.func, ast.Name) and node.func.id == "range":
        return set()
    walked = node.args if isinstance(node.func, ast.Name) else [node.func.value]
    return {name for part in walked for name in walked_names(part)}


def loop_faults(loop):
    names = walked_names(loop.iter)
    for node in (part for statement in loop.body for part in ast.walk(statement)):
        stored = isinstance(node, ast.Subscript) and isinstance(node.ctx, ast.Store)
        if stored or isinstance(node, ast.Attribute) and node.attr in CHANGING:
            if isinstance(node.value, ast.Name) and node.value.id in names:
                yield "L23", node.lineno


def lambda_faults(tree):
    rows = [node.lineno for node in ast.walk(tree) if isinstance(node, ast.Lambda)]
    return [("L13", row) for row in rows if rows.count(row) > 1]


def source_faults(source):
    """Pairs of a rule and a row, each that the source of a file breaks."""
    tree = ast.parse(source)
    imported = {name for module, name in imports(tree)}
    own = {node.name for node in ast.walk(tree) if isinstance(node, ast.FunctionDef)}
    found = [*text_faults(source), *top_faults(tree), *import_faults(tree), *kept_faults(tree), *lambda_faults(tree)]
    for node in ast.walk(tree):
        if isinstance(node, (ast.FunctionDef, ast.Lambda)):
            found.extend(function_faults(node))
        if isinstance(node, ast.ClassDef):
            found.extend(class_faults(node, tree))
        if isinstance(node, ast.stmt) and not (node in tree.body[:1] and is_docstring(node)):
            found.extend(statement_faults(node))
        if isinstance(node, ast.For):
            found.extend(loop_faults(node))
        if isinstance(node, ast.expr):
            found.extend(expression_faults(node))
        if isinstance(node, ast.Call):
            found.extend(call_faults(node, own))
        found.extend(name_faults(node, imported))
    return sorted(set(found))


def drawn_from(module, trees):
    """All modules that one draws from, in whatever many steps."""
    reached, waiting = set(), [module]
    while waiting:
        for other, name in imports(trees[waiting.pop()]):
            if other not in reached:
                reached.add(other)
                waiting.append(other)
    return reached


def package_faults(sources):
    """What the files of a package, a dict from module names to sources, break among one another."""
    trees = {module: ast.parse(source) for module, source in sources.items()}
    found = [
        ("L16", module)
        for module, tree in trees.items() for other, name in imports(tree)
        if other not in trees or name not in top_names(trees[other])
    ]
    # With a module missing, what it would draw from can't be followed.
    return found or [("L16", module) for module in trees if module in drawn_from(module, trees)]

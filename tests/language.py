"""A look at Python code by the rules of the language that the program is written in, as far as code shows them."""

import ast
import builtins
import re

LIBRARY = {
    "heapq": {"heappush", "heappop", "heapify", "heapreplace", "heappushpop"},
    "math": {"gcd", "lcm", "isqrt", "comb", "perm", "factorial"},
    "itertools": {"product", "combinations", "permutations", "chain", "accumulate", "pairwise", "islice", "zip_longest"},
    "collections": {"defaultdict"},
}
BUILTINS = set("""len range enumerate zip min max sum abs sorted reversed int str bool bytes list tuple dict set
frozenset isinstance ord repr any all divmod pow getattr hasattr setattr iter next map super property staticmethod
classmethod object float Exception ValueError TypeError KeyError IndexError LookupError ZeroDivisionError
ArithmeticError OverflowError RuntimeError NotImplementedError AttributeError StopIteration NotImplemented""".split())
METHODS = set("""append clear copy count endswith extend find get index insert isalnum isalpha isdigit islower isspace
isupper items join keys ljust lower lstrip partition pop remove replace reverse rfind rjust rpartition rsplit rstrip
setdefault split splitlines startswith strip update upper values zfill bit_length title capitalize swapcase casefold
center expandtabs removeprefix removesuffix rindex isascii isdecimal isnumeric istitle isidentifier isprintable
translate maketrans encode decode hex add discard sort format from_iterable from_bytes""".split())
KEYWORDS = {"sorted": {"key", "reverse"}, "min": {"key", "default"}, "max": {"key", "default"}, "sum": {"start"},
            "enumerate": {"start"}, "zip": {"strict"}}
DUNDERS = set("init eq repr str len enter exit call iter lt le gt ge ne contains getitem setitem neg pos invert abs "
              "bool".split())
for sign in "add sub mul floordiv mod pow and or xor lshift rshift".split():
    DUNDERS |= {sign, "r" + sign, "i" + sign}
NOWHERE = {"register", "mro", "elements", "open", "input", "law", "version_info", "with_traceback", "add_note"}
NO_NAMES = set("""attrgetter breakpoint builtins compile copyright credits delattr dir eval exec exit gc globals help
id importlib license locals methodcaller os quit type vars""".split())
NO_WORDS = set("""type typing typing_extensions enum Enum IntEnum StrEnum Flag IntFlag Generic Protocol ABC ABCMeta
namedtuple NamedTuple TypedDict TYPE_CHECKING abstractmethod""".split())
NO_STARTS = ("_wall", "_pe_", "_dcw_", "_enum_", "_cm_", "_twin_re_", "_lay_", "_law_", "_stub_", "_sre", "_WallAttr")
NO_UNDERSCORED = re.compile("(_cold|_tuplegetter|_outside|_record|_written_out|_member_names)[0-9_]*")
CAUGHT = {"KeyError", "ZeroDivisionError", "StopIteration", "ValueError", "LookupError", "IndexError"}
STATEMENTS = (
    ast.FunctionDef, ast.ClassDef, ast.Return, ast.Delete, ast.Assign, ast.AugAssign, ast.AnnAssign, ast.For, ast.While,
    ast.If, ast.With, ast.Match, ast.Raise, ast.Try, ast.Assert, ast.ImportFrom, ast.Nonlocal, ast.Expr, ast.Pass,
    ast.Break, ast.Continue,
)


def breaches(text, package="websolids"):
    """The breaches in a file's text: a list of (rule, line)."""
    tree = ast.parse(text)
    parents = {child: node for node in ast.walk(tree) for child in ast.iter_child_nodes(node)}
    found = sizes(text, tree) + words(text, tree) + module_level(tree, package) + names(tree) + classes(tree)
    for node in ast.walk(tree):
        for look in (statement, value, call, raised, sets):
            found += [(rule, getattr(node, "lineno", 0)) for rule in look(node, parents)]
    return sorted(set(found))


def sizes(text, tree):
    """L10, L14: lines, functions, characters."""
    lines = text.split("\n")
    found = [("L10", at + 1) for at, line in enumerate(lines) if len(line) > 120 or "\t" in line]
    found += [("L10", 400)] * (len(text.splitlines()) > 399)
    found += [("L14", at + 1) for at, line in enumerate(lines) if not all([" " <= letter <= "~" for letter in line])]
    for node in ast.walk(tree):
        if isinstance(node, ast.FunctionDef) and node.end_lineno - node.lineno + 1 > 40:
            found.append(("L10", node.lineno))
    return found


def docstrings(tree):
    """The nodes of docstrings."""
    found = set()
    for node in ast.walk(tree):
        if isinstance(node, (ast.Module, ast.ClassDef, ast.FunctionDef)) and node.body:
            first = node.body[0]
            if isinstance(first, ast.Expr) and isinstance(first.value, ast.Constant):
                found.add(first.value)
    return found


def words(text, tree):
    """L12, L17, L27: words and strings."""
    found = [("L12", 0)] * bool(re.search(r"\b(_wall|_WallAttr)\b", text))
    found += [("L17", 0)] * bool(re.search("dataclass|overload|contextmanager", text))
    found += [("L27", 0)] * bool(re.search(r"\\[^n t\\'\"\n]", text))
    told = docstrings(tree)
    for node in ast.walk(tree):
        if isinstance(node, ast.Constant) and isinstance(node.value, str):
            if "%" in node.value or node.value.endswith(("._", ".__")) or re.fullmatch("__.*__", node.value):
                found.append(("L27", node.lineno))
            if node not in told and NO_WORDS & set(re.findall("[A-Za-z_]+", node.value)):
                found.append(("L17", node.lineno))
    return found


def module_level(tree, package):
    """L2, L3, L15, L16: imports and what else stands at module level."""
    found, bound = [], []
    imports_over = False
    for at, node in enumerate(tree.body):
        if isinstance(node, ast.ImportFrom):
            found += [("L2", node.lineno)] * (imports_over or not importable(node, package))
            bound += [name.asname or name.name for name in node.names]
            continue
        if at == 0 and isinstance(node, ast.Expr) and isinstance(node.value, ast.Constant):
            continue
        imports_over = True
        if isinstance(node, (ast.FunctionDef, ast.ClassDef)):
            bound.append(node.name)
        elif isinstance(node, ast.Assign) and len(node.targets) == 1 and isinstance(node.targets[0], ast.Name):
            bound.append(node.targets[0].id)
            found += [("L3", node.lineno)] * (not is_plain(node.value))
        else:
            found.append(("L3", node.lineno))
    found += [("L15", 0) for name in set(bound) if bound.count(name) > 1]
    outer = {name for node in tree.body if isinstance(node, ast.ImportFrom) for name in [n.name for n in node.names]}
    outer |= {node.name for node in tree.body if isinstance(node, ast.ClassDef)}
    for node in ast.walk(tree):
        if isinstance(node, ast.FunctionDef):
            found += [("L15", node.lineno)] * bool(outer & set(local_names(node)))
    for node in ast.walk(tree):
        if isinstance(node, ast.Import) or isinstance(node, ast.ImportFrom) and node not in tree.body:
            found.append(("L2", node.lineno))
    return found


def is_plain(node):
    """Whether a value is written out: a literal, or a list, tuple or dict of such."""
    if isinstance(node, ast.Dict):
        return all([is_plain(part) for part in node.keys + node.values])
    if isinstance(node, (ast.List, ast.Tuple)):
        return all([is_plain(part) for part in node.elts])
    if isinstance(node, ast.UnaryOp) and isinstance(node.op, ast.USub):
        node = node.operand
    return isinstance(node, ast.Constant)


def importable(node, package):
    """Whether an import is of the package by its full name, or of what is let of the library."""
    if node.level or node.module is None or any([name.name == "*" for name in node.names]):
        return False
    if node.module == "__future__":
        return [name.name for name in node.names] == ["annotations"]
    if node.module in LIBRARY:
        return all([name.name in LIBRARY[node.module] and not name.asname for name in node.names])
    return node.module.split(".")[0] == package and "." in node.module and not node.module.endswith("__main__")


def local_names(function):
    """All names that a function assigns, its parameters too."""
    told = [arg.arg for arg in ast.walk(function.args) if isinstance(arg, ast.arg)]
    for node in ast.walk(function):
        if isinstance(node, ast.Name) and isinstance(node.ctx, ast.Store):
            told.append(node.id)
        if isinstance(node, ast.FunctionDef) and node is not function:
            told.append(node.name)
    return told


def names(tree):
    """L8, L12, L15, L17: names that are given."""
    given = []
    for node in ast.walk(tree):
        if isinstance(node, (ast.FunctionDef, ast.ClassDef)):
            given.append((node.name, node))
        elif isinstance(node, ast.arg):
            given.append((node.arg, node))
        elif isinstance(node, ast.Name) and isinstance(node.ctx, ast.Store):
            given.append((node.id, node))
        elif isinstance(node, ast.ExceptHandler) and node.name:
            given.append((node.name, node))
    methods = [part for node in ast.walk(tree) if isinstance(node, ast.ClassDef) for part in node.body]
    found = []
    for name, node in given:
        line = node.lineno
        if name.startswith("__"):
            right = node in methods and name.endswith("__") and name[2:-2] in DUNDERS
            found += [("L5", line)] * (not right and name not in ("__all__", "__version__", "__slots__"))
        elif not re.fullmatch("_?[A-Za-z][A-Za-z0-9_]*|_", name, re.ASCII) or name.startswith(NO_STARTS):
            found.append(("L12", line))
        elif NO_UNDERSCORED.fullmatch(name):
            found.append(("L12", line))
        if name in NOWHERE or name in NO_NAMES:
            found.append(("L17", line))
        elif node not in methods and name != "_" and hasattr(builtins, name):
            found.append(("L15", line))
    for node in ast.walk(tree):
        if isinstance(node, ast.Name) and node.id == "_" and isinstance(node.ctx, ast.Load):
            found.append(("L12", node.lineno))
        elif isinstance(node, ast.Name) and isinstance(node.ctx, ast.Load) and hasattr(builtins, node.id):
            found += [("L8", node.lineno)] * (node.id not in BUILTINS)
        if isinstance(node, ast.Attribute) and (node.attr in NOWHERE or node.attr.startswith("__")):
            found.append(("L17", node.lineno))
    return found


def classes(tree):
    """L5, L28: what classes with operators have."""
    found = []
    for node in ast.walk(tree):
        if isinstance(node, ast.ClassDef):
            methods = {part.name: part for part in node.body if isinstance(part, ast.FunctionDef)}
            found += [("L5", node.lineno)] * ("__getitem__" in methods and "__iter__" not in methods)
            for name in set(methods) & {"__getitem__", "__contains__", "__len__"}:
                found += [("L5", node.lineno)] * any([changes(part) for part in ast.walk(methods[name])])
            for part in ast.walk(methods.get("__len__", ast.Pass())):
                if isinstance(part, ast.Return):
                    told = part.value.func if isinstance(part.value, ast.Call) else part.value
                    right = isinstance(told, ast.Name) and told.id == "len" or isinstance(told, ast.Constant)
                    found += [("L28", part.lineno)] * (not right)
    return found


def changes(node):
    """Whether a part of code assigns something, or calls a method that changes."""
    if isinstance(node, (ast.Assign, ast.AugAssign, ast.Delete)):
        return True
    changing = {"append", "clear", "extend", "insert", "pop", "remove", "reverse", "setdefault", "update", "add", "discard"}
    return isinstance(node, ast.Call) and isinstance(node.func, ast.Attribute) and node.func.attr in changing


def statement(node, parents):
    """L4, L6, L19, L21: statements."""
    if isinstance(node, ast.stmt) and not isinstance(node, STATEMENTS):
        return ["L6"]
    if isinstance(node, ast.ClassDef) and (node.decorator_list or node.keywords):
        return ["L5"]
    if isinstance(node, ast.FunctionDef):
        plain = [isinstance(one, ast.Name) and one.id in ("property", "staticmethod", "classmethod")
                 or isinstance(one, ast.Attribute) and one.attr == "setter" for one in node.decorator_list]
        return [] if all(plain) else ["L4"]
    if isinstance(node, ast.Expr) and not isinstance(node.value, (ast.Call, ast.Constant, ast.Yield, ast.YieldFrom)):
        return ["L6"]
    if isinstance(node, ast.ExceptHandler):
        kinds = node.type.elts if isinstance(node.type, ast.Tuple) else [node.type]
        right = [isinstance(kind, ast.Name) and (kind.id in CAUGHT or not hasattr(builtins, kind.id)) for kind in kinds]
        return [] if right and all(right) else ["L19"]
    if isinstance(node, ast.AnnAssign) and node.value is None:
        return ["L21"]
    return []


def value(node, parents):
    """L7, L20, L27: values and signs."""
    if isinstance(node, ast.Constant) and isinstance(node.value, (float, complex)):
        return ["L7"]
    if isinstance(node, (ast.BinOp, ast.AugAssign)) and isinstance(node.op, (ast.Div, ast.MatMult)):
        return ["L7"]
    if isinstance(node, ast.BinOp) and isinstance(node.op, ast.Pow):
        small = isinstance(node.right, ast.Constant) and isinstance(node.right.value, int) and 0 <= node.right.value <= 64
        loose = isinstance(node.right, ast.Name) or isinstance(node.right, ast.BinOp) and isinstance(node.right.op, ast.Mod)
        return [] if small or loose else ["L27"]
    if isinstance(node, ast.Compare):
        for sign, left, right in zip(node.ops, [node.left] + node.comparators, node.comparators):
            if isinstance(sign, (ast.Is, ast.IsNot)):
                sure = [isinstance(one, ast.Constant) and (one.value is None or isinstance(one.value, bool))
                        or isinstance(one, ast.Name) and one.id == "self" for one in (left, right)]
                return [] if any(sure) else ["L20"]
    return []


def call(node, parents):
    """L8, L22, L23, L25: calls."""
    found = []
    if isinstance(node, ast.Call) and isinstance(node.func, ast.Name):
        name = node.func.id
        if hasattr(builtins, name) and name in BUILTINS:
            told = {word.arg for word in node.keywords}
            found += ["L22"] * (not told <= KEYWORDS.get(name, set()))
        if name == "reversed" and isinstance(node.args[0], ast.Call):
            inner = node.args[0].func
            found += ["L23"] * (isinstance(inner, ast.Name) and inner.id in ("zip", "enumerate", "map"))
        if name == "len" and isinstance(node.args[0], ast.Call):
            inner = node.args[0].func
            found += ["L23"] * (isinstance(inner, ast.Name) and inner.id in ("zip", "enumerate", "map", "reversed"))
    if isinstance(node, ast.Call) and isinstance(node.func, ast.Constant) and not isinstance(node.func.value, str):
        found.append("L7")
    if isinstance(node, ast.Name) and node.id in KEYWORDS and isinstance(node.ctx, ast.Load):
        parent = parents[node]
        keyed = isinstance(parent, ast.keyword) and parent.arg == "key"
        found += ["L22"] * (not keyed and not (isinstance(parent, ast.Call) and parent.func is node))
    if isinstance(node, ast.Attribute) and node.attr in METHODS - {"count", "index", "title", "find", "get", "copy", "add"}:
        parent = parents[node]
        found += ["L25"] * (not (isinstance(parent, ast.Call) and parent.func is node))
    return found


def raised(node, parents):
    """L19: what is raised is created on the spot."""
    if not isinstance(node, ast.Raise) or node.exc is None:
        return []
    made = node.exc.func if isinstance(node.exc, ast.Call) else node.exc
    return [] if isinstance(made, ast.Name) and made.id[0].isupper() else ["L19"]


def sets(node, parents):
    """L24: a set stands in sorted or len, behind in, beside ==, or is assigned to a plain variable."""
    literal = isinstance(node, (ast.Set, ast.SetComp))
    made = isinstance(node, ast.Call) and isinstance(node.func, ast.Name) and node.func.id == "set"
    if isinstance(node, ast.Call) and isinstance(node.func, ast.Name) and node.func.id == "frozenset":
        return ["L24"]
    if not literal and not made:
        return []
    parent = parents[node]
    while isinstance(parent, ast.BinOp):
        parent = parents[parent]
    if isinstance(parent, ast.Call):
        return [] if isinstance(parent.func, ast.Name) and parent.func.id in ("sorted", "len") else ["L24"]
    if isinstance(parent, ast.Assign):
        return [] if len(parent.targets) == 1 and isinstance(parent.targets[0], ast.Name) else ["L24"]
    return [] if isinstance(parent, ast.Compare) else ["L24"]

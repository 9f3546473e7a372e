"""Finds code outside the program's language, as far as a look at the syntax can tell.

It knows the rules that are broken most easily, not all of them.
"""
import ast
import builtins
import re

PACKAGE = "priceblind"
LIBRARY = {
    "heapq": "heappush heappop heapify heapreplace heappushpop",
    "math": "gcd lcm isqrt comb perm factorial",
    "itertools": "product combinations permutations chain accumulate pairwise islice zip_longest",
    "collections": "defaultdict",
    "__future__": "annotations",
}
OF_PYTHON = {name for name in dir(builtins) if not name.startswith("__")}
BUILTINS = set("""
    len range enumerate zip min max sum abs sorted reversed int str bool bytes list tuple dict set
    frozenset isinstance ord repr any all divmod pow getattr hasattr setattr iter next map super
    property staticmethod classmethod Exception ValueError TypeError KeyError IndexError LookupError
    ZeroDivisionError ArithmeticError OverflowError RuntimeError NotImplementedError AttributeError
    StopIteration NotImplemented
""".split())
METHODS = set("""
    append clear copy count endswith extend find get index insert isalnum isalpha isdigit islower
    isspace isupper items join keys ljust lower lstrip partition pop remove replace reverse rfind
    rjust rpartition rsplit rstrip setdefault split splitlines startswith strip update upper values
    zfill bit_length title capitalize swapcase casefold center expandtabs removeprefix removesuffix
    rindex isascii isdecimal isnumeric istitle isidentifier isprintable translate format sort add
    discard maketrans from_iterable
""".split())
DOUBLE = set("""
    init eq repr str len enter exit call iter lt le gt ge ne add sub mul floordiv mod pow and or xor
    lshift rshift neg pos invert abs bool contains getitem setitem
""".split())
BARRED_NAMES = set("""
    register mro elements open input law version_info with_traceback add_note compile copyright dir
    eval exec exit gc globals help id importlib license locals os quit sys vars _cold _outside _record
""".split())
BARRED_WORDS = re.compile(
    r"\b(typing|typing_extensions|enum|Enum|Flag|Generic|Protocol|ABC|ABCMeta|namedtuple|NamedTuple"
    r"|TypedDict|TYPE_CHECKING|abstractmethod|type)\b|dataclass|overload|contextmanager")
DECORATORS = ("property", "staticmethod", "classmethod")
STATEMENTS = (
    ast.Assign, ast.AugAssign, ast.AnnAssign, ast.If, ast.While, ast.For, ast.Return, ast.Break,
    ast.Continue, ast.Pass, ast.Raise, ast.Assert, ast.Delete, ast.Nonlocal, ast.Match, ast.With,
    ast.Try, ast.Expr, ast.FunctionDef, ast.ClassDef, ast.ImportFrom)
COMPREHENSIONS = (ast.ListComp, ast.SetComp, ast.DictComp, ast.GeneratorExp)
BARRED_PREFIXES = ("_pe_", "_dcw_", "_enum_", "_cm_", "_twin_re_", "_lay_", "_law_", "_stub_", "_sre")
OF_VALUES = {name for kind in (str, int, list, dict, set, bytes) for name in dir(kind) if not name.startswith("_")}
MAY_BE_METHODS = METHODS - {"format", "sort", "translate", "maketrans"}
MAY_BE_ATTRIBUTES = "count index title find get join lower upper split strip copy add".split()
PLAIN_NAME = re.compile(r"_|_?[A-Za-z][A-Za-z0-9_]*")


def faults(text, others=()):
    """Pairs (rule, line) of what is found in the text of a file; others are the package's other files."""
    tree = ast.parse(text)
    found = lines_at_fault(text)
    for node in tree.body:
        found += [("L3", node.lineno)] if not stands_at_module_level(node, tree) else []
    own = own_methods(tree).union(*[own_methods(ast.parse(other)) for other in others])
    for node in ast.walk(tree):
        found += [(rule, getattr(node, "lineno", 0)) for rule in rules_broken(node, own)]
    return sorted(set(found + names_taken_twice(tree) + comprehensions_at_fault(tree)))


def lines_at_fault(text):
    found = []
    lines = text.split("\n")
    for number, line in enumerate(lines, 1):
        if len(line) > 120:
            found.append(("L10", number))
        if any(not " " <= sign <= "~" for sign in line):
            found.append(("L14", number))
        if "_wall" in line or "_WallAttr" in line:
            found.append(("L12", number))
    if len(lines) > 400:
        found.append(("L10", 400))
    return found


def stands_at_module_level(node, tree):
    if isinstance(node, ast.Expr):
        return node is tree.body[0] and is_text(node.value)
    if isinstance(node, ast.Assign):
        return len(node.targets) == 1 and isinstance(node.targets[0], ast.Name)
    return isinstance(node, (ast.ImportFrom, ast.FunctionDef, ast.ClassDef))


def is_text(node):
    return isinstance(node, ast.Constant) and isinstance(node.value, str)


def own_methods(tree):
    """Names that a call behind a dot may have, beside those of builtin values."""
    names = {node.name for node in ast.walk(tree) if isinstance(node, ast.FunctionDef)}
    return names | {node.attr for node in ast.walk(tree)
                    if isinstance(node, ast.Attribute) and isinstance(node.ctx, ast.Store)}


def names_taken_twice(tree):
    """Parameters, variables and nested functions with the name of an import or a class of their file."""
    taken = {node.name for node in tree.body if isinstance(node, ast.ClassDef)}
    taken |= {alias.name for node in tree.body if isinstance(node, ast.ImportFrom) for alias in node.names}
    found = []
    for node in ast.walk(tree):
        bound = None if isinstance(node, (ast.Attribute, ast.ClassDef)) else bound_name(node)
        if bound in taken:
            found.append(("L15", node.lineno))
    return found


def comprehensions_at_fault(tree):
    """Comprehensions inside others, or in nested functions, with a name that is bound further out."""
    found = []

    def look(node, outer):
        bound = set(outer)
        if isinstance(node, COMPREHENSIONS):
            inner = {name.id for part in node.generators for name in ast.walk(part.target)
                     if isinstance(name, ast.Name)} - {"_"}
            if inner & outer:
                found.append(("L7", node.lineno))
            bound |= inner
        for child in ast.iter_child_nodes(node):
            look(child, bound)

    look(tree, set())
    return found


def rules_broken(node, own):
    checks = (of_imports, of_definitions, of_statements, of_names, of_values, of_calls, of_raises, of_sets,
              of_own_names)
    return [rule for check in checks for rule in check(node, own)]


def of_imports(node, own):
    if isinstance(node, ast.Import):
        return ["L16"]
    if isinstance(node, ast.ImportFrom):
        names = [alias.name for alias in node.names]
        if node.level or "*" in names:
            return ["L2"]
        if node.module.startswith(PACKAGE + "."):
            return []
        allowed = LIBRARY.get(node.module, "").split()
        return ["L2"] if set(names) - set(allowed) else []
    return []


def of_definitions(node, own):
    found = []
    if isinstance(node, (ast.FunctionDef, ast.ClassDef)):
        for each in node.decorator_list:
            plain = isinstance(each, ast.Name) and each.id in DECORATORS
            setter = isinstance(each, ast.Attribute) and each.attr == "setter"
            if isinstance(node, ast.ClassDef) or not (plain or setter):
                found.append("L4")
    if isinstance(node, ast.FunctionDef):
        if node.end_lineno - node.lineno + 1 > 40:
            found.append("L10")
        if node.name.startswith("__") and node.name.strip("_") not in DOUBLE:
            found.append("L5")
    return found


def of_statements(node, own):
    if isinstance(node, ast.stmt) and not isinstance(node, STATEMENTS + (ast.Import,)):
        return ["L6"]
    if isinstance(node, (ast.AsyncFunctionDef, ast.Await)):
        return ["L6"]
    if isinstance(node, ast.ExceptHandler) and node.type is None:
        return ["L6"]
    if isinstance(node, ast.ExceptHandler):
        caught = {part.id for part in ast.walk(node.type) if isinstance(part, ast.Name)}
        # The first three may be caught around little, the others never.
        return ["L19"] if caught & (set(OF_PYTHON) - {"KeyError", "ZeroDivisionError", "StopIteration"}) else []
    return []


def of_names(node, own):
    found = []
    bound = bound_name(node)
    if bound is not None:
        double = bound.startswith("__")
        if not PLAIN_NAME.fullmatch(bound) and not (isinstance(node, ast.FunctionDef) and double):
            found.append("L12")
        if bound in OF_PYTHON and not isinstance(node, ast.Attribute):
            found.append("L15")
        if bound in BARRED_NAMES:
            found.append("L17")
        if bound.startswith(BARRED_PREFIXES):
            found.append("L12")
    if isinstance(node, ast.Name) and isinstance(node.ctx, ast.Load):
        if node.id in OF_PYTHON and node.id not in BUILTINS:
            found.append("L8")
        if node.id == "type":
            found.append("L17")
    if isinstance(node, ast.Attribute) and node.attr.startswith("__"):
        if node.attr not in ("__class__", "__name__", "__init__"):
            found.append("L8")
    return found


def bound_name(node):
    if isinstance(node, (ast.Name, ast.Attribute)) and isinstance(node.ctx, ast.Store):
        return node.id if isinstance(node, ast.Name) else node.attr
    if isinstance(node, (ast.FunctionDef, ast.ClassDef)):
        return node.name
    return node.arg if isinstance(node, ast.arg) else None


def of_values(node, own):
    found = []
    if isinstance(node, ast.Constant):
        if isinstance(node.value, (float, complex)):
            found.append("L7")
        if isinstance(node.value, str) and "%" in node.value:
            found.append("L27")
    if isinstance(node, (ast.BinOp, ast.AugAssign)) and isinstance(node.op, (ast.Div, ast.MatMult)):
        found.append("L7")
    if isinstance(node, ast.Compare):
        for op, right in zip(node.ops, node.comparators):
            if isinstance(op, (ast.Is, ast.IsNot)):
                if not (isinstance(right, ast.Constant) and right.value in (None, True, False)):
                    found.append("L20")
    return found


def of_calls(node, own):
    if not isinstance(node, ast.Call):
        return []
    called = node.func
    if isinstance(called, ast.Attribute) and not called.attr.startswith("__"):
        return [] if called.attr in METHODS | own else ["L25"]
    if isinstance(called, ast.Name) and called.id == "bytes":
        return ["L7"]
    if isinstance(called, ast.Name) and called.id in ("any", "all", "min", "max", "sum", "sorted"):
        # The package has classes with an __eq__.
        return ["L7"] if any(isinstance(part, ast.GeneratorExp) for part in node.args) else []
    return []


def of_sets(node, own):
    """Sets that are kept or iterated over, and what else may only be iterated over at once."""
    value = getattr(node, "value", None) if isinstance(node, ast.Assign) else None
    value = node.iter if isinstance(node, (ast.For, ast.comprehension)) else value
    if isinstance(value, (ast.Set, ast.SetComp)):
        return ["L24"]
    if isinstance(value, ast.Call) and isinstance(value.func, ast.Name):
        if value.func.id in ("set", "frozenset"):
            return ["L24"]
        if isinstance(node, ast.Assign) and value.func.id in ("zip", "enumerate", "reversed", "range", "iter"):
            return ["L23"]
    return []


def of_own_names(node, own):
    """Methods and attributes of the package's classes that have a name of a builtin value's."""
    found = []
    if isinstance(node, ast.ClassDef):
        methods = {part.name for part in node.body if isinstance(part, ast.FunctionDef)}
        if methods & set(OF_VALUES) - set(MAY_BE_METHODS):
            found.append("L26")
    if isinstance(node, ast.Attribute) and isinstance(node.ctx, ast.Store):
        if node.attr in set(OF_VALUES) - set(MAY_BE_ATTRIBUTES):
            found.append("L26")
    return found


def of_raises(node, own):
    if isinstance(node, ast.Raise) and node.exc is not None:
        made = isinstance(node.exc, ast.Call) and isinstance(node.exc.func, ast.Name)
        return [] if made else ["L19"]
    return []


def words_at_fault(text):
    """Words that may not stand anywhere but in comments and docstrings."""
    tree = ast.parse(text)
    for node in ast.walk(tree):
        body = getattr(node, "body", None)
        if isinstance(body, list) and body and isinstance(body[0], ast.Expr) and is_text(body[0].value):
            body[0] = ast.Pass()
    return [found.group() for found in BARRED_WORDS.finditer(ast.unparse(tree))]

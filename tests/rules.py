"""Looks for breaches of LANGUAGE.md that a look at the source can find.

The rules are wider than this; what is not looked for here is for the reader.
"""

import ast
import builtins
import keyword
import re

PACKAGE = "espalier"

LIBRARY = {
    "heapq": ("heappush", "heappop", "heapify", "heapreplace", "heappushpop"),
    "math": ("gcd", "lcm", "isqrt", "comb", "perm", "factorial"),
    "itertools": ("product", "combinations", "permutations", "chain", "accumulate",
                  "pairwise", "islice", "zip_longest"),
    "collections": ("defaultdict", "deque"),
}

BUILTINS = """
    len range enumerate zip min max sum abs sorted reversed int str bool list tuple
    dict set isinstance ord repr any all divmod pow getattr hasattr setattr iter next
    map type super Exception ValueError TypeError KeyError IndexError LookupError
    ZeroDivisionError ArithmeticError OverflowError RuntimeError NotImplementedError
    AttributeError StopIteration NotImplemented property staticmethod classmethod
""".split()

METHODS = """
    append clear copy count endswith extend find get index insert isalnum isalpha
    isdigit islower isspace isupper items join keys ljust lower lstrip partition pop
    remove replace reverse rfind rjust rpartition rsplit rstrip setdefault split
    splitlines startswith strip update upper values zfill bit_length add discard sort
    appendleft popleft rotate extendleft
""".split()

DUNDERS = """
    __init__ __eq__ __repr__ __str__ __len__ __enter__ __exit__ __call__ __iter__
""".split()

CAUGHT = ["KeyError", "ZeroDivisionError", "StopIteration", "ValueError",
          "LookupError", "IndexError"]

BARRED = """
    register mro elements open input law version_info with_traceback add_note typing
    enum Enum namedtuple dataclass overload contextmanager abstractmethod Protocol
    attrgetter breakpoint builtins compile copyright credits delattr dir eval exec exit
    gc globals help id importlib license locals methodcaller os quit vars sys
""".split()

STATEMENTS = (
    ast.FunctionDef, ast.ClassDef, ast.Return, ast.Delete, ast.Assign, ast.AugAssign,
    ast.AnnAssign, ast.For, ast.While, ast.If, ast.With, ast.Match, ast.Raise, ast.Try,
    ast.Assert, ast.Import, ast.ImportFrom, ast.Global, ast.Nonlocal, ast.Expr,
    ast.Pass, ast.Break, ast.Continue)

PLAIN_NAME = re.compile(r"_?[A-Za-z][A-Za-z0-9_]*\Z|_\Z")


def bound_names(tree):
    """Return (name, line) of all that the source gives a name."""
    found = []
    for node in ast.walk(tree):
        if isinstance(node, (ast.FunctionDef, ast.ClassDef)):
            found.append((node.name, node.lineno))
        elif isinstance(node, ast.arg):
            found.append((node.arg, node.lineno))
        elif isinstance(node, ast.Name) and not isinstance(node.ctx, ast.Load):
            found.append((node.id, node.lineno))
    return found


def method_names(tree):
    """Return the names of all methods."""
    return [part.name for node in ast.walk(tree) if isinstance(node, ast.ClassDef)
            for part in node.body if isinstance(part, ast.FunctionDef)]


def attribute_names(tree):
    """Return the names of all attributes that are assigned."""
    return [node.attr for node in ast.walk(tree)
            if isinstance(node, ast.Attribute) and isinstance(node.ctx, ast.Store)]


def text_faults(source):
    """L10, L14 and L27: lines and characters."""
    lines = source.split("\n")
    if len(lines) > 400 or not source.endswith("\n"):
        yield ("L10", len(lines))
    for at, line in enumerate(lines, 1):
        if len(line) > 120:
            yield ("L10", at)
        if re.search(r"[^ -~]", line):
            yield ("L14", at)


def import_faults(tree):
    """L2 and L16: what is imported, and where."""
    for node in ast.walk(tree):
        if isinstance(node, ast.Import):
            yield ("L16", node.lineno)
        elif isinstance(node, ast.ImportFrom):
            names = [part.name for part in node.names]
            if node not in tree.body or node.level or "*" in names:
                yield ("L2", node.lineno)
            elif node.module in LIBRARY:
                if any(name not in LIBRARY[node.module] for name in names):
                    yield ("L2", node.lineno)
            elif node.module != "__future__" and not node.module.startswith(PACKAGE + "."):
                yield ("L2", node.lineno)


def is_plain(node):
    """Tell whether a module-level value is a plain one (L3, L15)."""
    if isinstance(node, ast.UnaryOp):
        return isinstance(node.op, ast.USub) and isinstance(node.operand, ast.Constant)
    if isinstance(node, ast.Dict):
        return all(is_plain(part) for part in node.keys + node.values)
    if isinstance(node, (ast.List, ast.Tuple)):
        return all(is_plain(part) for part in node.elts)
    return isinstance(node, (ast.Constant, ast.Name))


def module_faults(tree):
    """L3: what stands at module level."""
    names = []
    for node in tree.body:
        if isinstance(node, ast.Assign):
            names.extend(target.id for target in node.targets if isinstance(target, ast.Name))
            if len(node.targets) != 1 or not isinstance(node.targets[0], ast.Name):
                yield ("L3", node.lineno)
            elif not is_plain(node.value):
                yield ("L3", node.lineno)
        elif isinstance(node, ast.Expr):
            if node is not tree.body[0] or not isinstance(node.value, ast.Constant):
                yield ("L3", node.lineno)
        elif isinstance(node, (ast.FunctionDef, ast.ClassDef)):
            names.append(node.name)
        elif isinstance(node, ast.ImportFrom):
            names.extend(part.name for part in node.names)
        else:
            yield ("L3", node.lineno)
    if len(names) != len(set(names)):
        yield ("L15", 1)


def function_faults(tree):
    """L4, L5, L10 and L28: functions, methods and classes."""
    for node in ast.walk(tree):
        if isinstance(node, ast.ClassDef):
            inner = [part for part in node.body if isinstance(part, ast.FunctionDef)]
            names = [part.name for part in inner]
            if node.decorator_list or len(names) != len(set(names)):
                yield ("L5", node.lineno)
            for name in names:
                if name.startswith("__") and name not in DUNDERS:
                    yield ("L5", node.lineno)
        elif isinstance(node, ast.FunctionDef):
            if node.decorator_list:
                yield ("L4", node.lineno)
            if node.end_lineno - node.lineno + 1 > 40:
                yield ("L10", node.lineno)
            if node.name == "__init__" and any(
                    isinstance(part, ast.Return) for part in ast.walk(node)):
                yield ("L28", node.lineno)


def statement_faults(tree):
    """L6, L7, L19 and L20: statements and expressions."""
    for node in ast.walk(tree):
        if isinstance(node, ast.stmt) and not isinstance(node, STATEMENTS):
            yield ("L6", node.lineno)
        elif isinstance(node, ast.Constant) and isinstance(node.value, (float, complex)):
            yield ("L7", node.lineno)
        elif isinstance(node, (ast.BinOp, ast.AugAssign)):
            if isinstance(node.op, (ast.Div, ast.MatMult)):
                yield ("L7", node.lineno)
        elif isinstance(node, ast.ExceptHandler):
            names = [part.id for part in ast.walk(node.type or node)
                     if isinstance(part, ast.Name)]
            barred = [name for name in names if name in dir(builtins) and name not in CAUGHT]
            if node.type is None or barred:
                yield ("L19", node.lineno)
        elif isinstance(node, ast.Compare):
            for sign, part in zip(node.ops, node.comparators):
                if isinstance(sign, (ast.Is, ast.IsNot)) and not (
                        isinstance(part, ast.Constant) and part.value in (None, True, False)):
                    yield ("L20", node.lineno)


def name_faults(tree):
    """L8, L12, L15 and L17: names."""
    methods = method_names(tree)
    for name, line in bound_names(tree):
        if not PLAIN_NAME.match(name) and name not in DUNDERS:
            yield ("L12", line)
        if name in dir(builtins) and name not in methods:
            yield ("L15", line)
        if name in BARRED or keyword.issoftkeyword(name) and name != "_":
            yield ("L17", line)
    for node in ast.walk(tree):
        if isinstance(node, ast.Name) and node.id in dir(builtins) and node.id not in BUILTINS:
            yield ("L8", node.lineno)


def value_faults(tree):
    """L14, L24, L26 and L27: strings, sets and attributes."""
    for node in ast.walk(tree):
        if isinstance(node, ast.Constant) and isinstance(node.value, str):
            if re.search(r"[^ -~\n]", node.value):
                yield ("L14", node.lineno)
            if "%" in node.value:
                yield ("L27", node.lineno)
        elif isinstance(node, (ast.For, ast.comprehension)):
            if isinstance(node.iter, (ast.Set, ast.SetComp)):
                yield ("L24", node.iter.lineno)
        elif isinstance(node, ast.Attribute) and node.attr.startswith("__"):
            if node.attr not in DUNDERS:
                yield ("L8", node.lineno)


def method_faults(tree, methods, attributes):
    """L18 and L25: methods that are called, attributes that are read."""
    called = [node.func for node in ast.walk(tree) if isinstance(node, ast.Call)]
    for node in ast.walk(tree):
        if not isinstance(node, ast.Attribute) or node.attr in DUNDERS:
            continue
        if node in called:
            if node.attr not in METHODS and node.attr not in methods:
                yield ("L25", node.lineno)
        elif node.attr not in attributes and node.attr not in methods:
            yield ("L18", node.lineno)


def both_faults(tree):
    """L18: a name that is a method and an attribute of one class."""
    for node in ast.walk(tree):
        if isinstance(node, ast.ClassDef):
            attributes = attribute_names(node)
            if any(name in attributes for name in method_names(node)):
                yield ("L18", node.lineno)


def faults(source, others=()):
    """Return the sorted list of (rule, line) of one file.

    `others` are the sources of the other files of the package.
    """
    tree = ast.parse(source)
    trees = [tree] + [ast.parse(other) for other in others]
    methods = [name for each in trees for name in method_names(each)]
    attributes = [name for each in trees for name in attribute_names(each)]
    found = list(text_faults(source))
    for look in (import_faults, module_faults, function_faults, statement_faults,
                 name_faults, value_faults, both_faults):
        found.extend(look(tree))
    found.extend(method_faults(tree, methods, attributes))
    return sorted(found)

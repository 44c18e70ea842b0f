"""What a test can look at of the rules L1 to L28: each function gives the faults of one file as (rule, line) pairs."""

import ast
import builtins
import io
import re
import tokenize

PACKAGE = "feeblind"
LIBRARY = {
    "heapq": {"heappush", "heappop", "heapify", "heapreplace", "heappushpop"},
    "math": {"gcd", "lcm", "isqrt", "comb", "perm", "factorial"},
    "collections": {"defaultdict", "deque"},
}
BUILTINS = set(
    "len range enumerate zip min max sum abs sorted reversed int str bool list tuple dict set isinstance ord repr any "
    "all divmod iter next map super property staticmethod classmethod Exception ValueError TypeError KeyError IndexError "
    "LookupError ZeroDivisionError ArithmeticError OverflowError RuntimeError NotImplementedError NotImplemented".split()
)
DOUBLE = set(
    "__init__ __eq__ __repr__ __str__ __len__ __enter__ __exit__ __call__ __iter__ __bool__ __contains__ __lt__".split()
)
METHODS = set(
    "append clear copy count endswith extend find get index insert isalnum isalpha isdigit islower isspace isupper items "
    "join keys ljust lower lstrip partition pop remove replace reverse rfind rjust rpartition rsplit rstrip setdefault "
    "split splitlines startswith strip update upper values zfill bit_length sort add discard isascii popleft "
    "removeprefix removesuffix".split()
)
ATTRIBUTES = {"count", "index", "title", "find", "get", "join", "lower", "upper", "split", "strip", "copy", "add"}
NOWHERE = {"register", "mro", "elements", "open", "input", "law", "version_info", "with_traceback", "add_note"}
NO_VARIABLES = set(
    "attrgetter breakpoint builtins compile copyright credits delattr dir eval exec exit gc getattr globals hasattr help id "
    "importlib license locals methodcaller os quit setattr super type vars sys".split()
)
WORDS = set(
    "type typing typing_extensions enum Enum IntEnum StrEnum Flag IntFlag Generic Protocol ABC ABCMeta namedtuple "
    "NamedTuple TypedDict TYPE_CHECKING abstractmethod".split()
)
AT_ONCE = {"list", "tuple", "dict", "sorted", "sum", "any", "all", "enumerate", "zip", "min", "max"}
VIEWS = {"zip", "enumerate", "reversed", "range"}
KEYWORDS = {"sorted": {"key", "reverse"}, "min": {"key", "default"}, "max": {"key", "default"}, "sum": {"start"}}
KEYWORDS.update({"enumerate": {"start"}, "zip": {"strict"}})
UNCAUGHT = {"Exception", "TypeError", "ArithmeticError", "OverflowError", "RuntimeError", "NotImplementedError"}
FUNCTIONS = (ast.FunctionDef, ast.Lambda)
COMPREHENSIONS = (ast.ListComp, ast.SetComp, ast.DictComp)
BANNED = (
    ast.AsyncFunctionDef, ast.AsyncFor, ast.AsyncWith, ast.Await, ast.Global, ast.AnnAssign, ast.GeneratorExp,
    ast.Match, ast.TryStar, ast.Div, ast.MatMult,
)
BUILT_IN_NAMES = {name for kind in (str, int, list, dict, set, bytes, tuple) for name in dir(kind)}


def in_text(text):
    """L10, L12, L14: characters, sizes, and words that stand nowhere."""
    found = []
    lines = text.split("\n")
    if len(lines) - 1 > 399:
        found.append(("L10", 400))
    for at, line in enumerate(lines, 1):
        if len(line) > 120:
            found.append(("L10", at))
        if any(not " " <= letter <= "~" for letter in line):
            found.append(("L14", at))
        if re.search("_wall|_WallAttr", line):
            found.append(("L12", at))
    return found


def docstrings(tree):
    """The lines at which docstrings begin."""
    holders = (ast.Module, ast.ClassDef, ast.FunctionDef)
    bodies = [node.body for node in ast.walk(tree) if isinstance(node, holders) and ast.get_docstring(node) is not None]
    return {body[0].lineno for body in bodies}


def in_tokens(text, tree):
    """L17, L27: words that do not occur, and characters of strings."""
    found = []
    skipped = docstrings(tree)
    for token in tokenize.generate_tokens(io.StringIO(text).readline):
        kind, line = tokenize.tok_name[token.type], token.start[0]
        if kind not in ("NAME", "STRING", "FSTRING_START", "FSTRING_MIDDLE"):
            continue
        if kind != "NAME":
            if "%" in token.string:
                found.append(("L27", line))
            if re.search(r"\\[^nt\\'\"]", token.string):
                found.append(("L27", line))
        if line in skipped and kind == "STRING":
            continue
        if WORDS & set(re.findall(r"\w+", token.string)) or re.search("dataclass|overload|contextmanager", token.string):
            found.append(("L17", line))
    return found


def is_plain(node, functions):
    """Whether an expression at module level is a plain value, without lists and dicts within others."""
    if isinstance(node, ast.UnaryOp):
        return isinstance(node.op, ast.USub) and isinstance(node.operand, ast.Constant)
    if isinstance(node, ast.Tuple):
        return all(is_plain(part, functions) and not isinstance(part, (ast.List, ast.Dict)) for part in node.elts)
    if isinstance(node, ast.List):
        return all(is_plain(part, functions) and not isinstance(part, (ast.List, ast.Dict)) for part in node.elts)
    if isinstance(node, ast.Dict):
        parts = node.keys + node.values
        return all(is_plain(part, functions) and not isinstance(part, (ast.List, ast.Dict)) for part in parts)
    return isinstance(node, ast.Constant) or isinstance(node, ast.Name) and node.id in functions


def at_module_level(tree):
    """L3, L15: what stands at module level, and each name once."""
    found, names, functions, others = [], [], set(), False
    for at, node in enumerate(tree.body):
        if isinstance(node, ast.ImportFrom):
            names.extend(alias.name for alias in node.names)
            if others:
                found.append(("L2", node.lineno))
            continue
        if at == 0 and isinstance(node, ast.Expr) and isinstance(node.value, ast.Constant):
            continue
        others = True
        if isinstance(node, (ast.FunctionDef, ast.ClassDef)):
            names.append(node.name)
            functions.update([node.name] if isinstance(node, ast.FunctionDef) else [])
        elif isinstance(node, ast.Assign) and len(node.targets) == 1 and isinstance(node.targets[0], ast.Name):
            names.append(node.targets[0].id)
            if not is_plain(node.value, functions):
                found.append(("L3", node.lineno))
        else:
            found.append(("L3", node.lineno))
    found.extend(("L15", 1) for at, name in enumerate(names) if name in names[:at])
    return found


def in_imports(tree, definitions):
    """L2, L16: only the package and the library, each name from the very file that defines it."""
    found = []
    for node in ast.walk(tree):
        if isinstance(node, ast.Import):
            found.append(("L2", node.lineno))
        if isinstance(node, ast.ImportFrom):
            module = node.module or ""
            there = LIBRARY.get(module)
            if module.startswith(PACKAGE + "."):
                there = definitions.get(module[len(PACKAGE) + 1:])
            for alias in node.names:
                if node.level or there is None or alias.name not in there or alias.asname:
                    found.append(("L2", node.lineno))
    return found


def unused_imports(tree):
    """Imports that are not used."""
    used = {node.id for node in ast.walk(tree) if isinstance(node, ast.Name)}
    rows = [(alias.name, node.lineno) for node in tree.body if isinstance(node, ast.ImportFrom) for alias in node.names]
    return [("L2", line) for name, line in rows if name not in used]


def in_functions(tree):
    """L4, L10, L21: sizes, decorators, defaults and annotations."""
    found = []
    for node in ast.walk(tree):
        if isinstance(node, ast.FunctionDef):
            if node.end_lineno - node.lineno + 1 > 40:
                found.append(("L10", node.lineno))
            if node.returns is not None or any(part.annotation for part in ast.walk(node) if isinstance(part, ast.arg)):
                found.append(("L21", node.lineno))
            defaults = node.args.defaults + [value for value in node.args.kw_defaults if value is not None]
            if not all(isinstance(value, (ast.Constant, ast.Name)) or is_plain(value, ()) for value in defaults):
                found.append(("L4", node.lineno))
            if any(isinstance(value, (ast.List, ast.Dict)) for value in defaults):
                found.append(("L4", node.lineno))
    inside = {node for owner in ast.walk(tree) if isinstance(owner, ast.ClassDef) for node in owner.body}
    for node in ast.walk(tree):
        for mark in getattr(node, "decorator_list", []):
            known = isinstance(mark, ast.Name) and mark.id in ("property", "staticmethod", "classmethod")
            known = known or isinstance(mark, ast.Attribute) and mark.attr == "setter"
            if node not in inside or not known or isinstance(node, ast.ClassDef):
                found.append(("L4", node.lineno))
    return found


def in_classes(tree):
    """L5, L18, L28: bases, methods with double underscores, one meaning for each name."""
    found = []
    for node in ast.walk(tree):
        if not isinstance(node, ast.ClassDef):
            continue
        if node.keywords or not all(isinstance(base, ast.Name) for base in node.bases):
            found.append(("L5", node.lineno))
        methods = [part for part in node.body if isinstance(part, ast.FunctionDef)]
        names = [part.name for part in methods if not any(isinstance(mark, ast.Attribute) for mark in part.decorator_list)]
        if len(set(names)) < len(names):
            found.append(("L18", node.lineno))
        for part in methods:
            if part.name.startswith("__") and part.name not in DOUBLE:
                found.append(("L5", part.lineno))
            if part.name in ("__repr__", "__str__", "__len__") and not isinstance(part.body[-1], ast.Return):
                found.append(("L28", part.lineno))
            if part.name == "__init__" and any(isinstance(step, ast.Return) for step in ast.walk(part)):
                found.append(("L28", part.lineno))
            if part.name in ("__eq__", "__repr__", "__str__", "__len__"):
                changed = [step for step in ast.walk(part) if isinstance(step, (ast.Assign, ast.AugAssign, ast.Delete))]
                found.extend(("L28", step.lineno) for step in changed)
    return found


def bound_names(tree):
    """Each name that a function, a parameter, an assignment or a handler binds, with its line."""
    methods = {part for owner in ast.walk(tree) if isinstance(owner, ast.ClassDef) for part in owner.body}
    for node in ast.walk(tree):
        if isinstance(node, ast.FunctionDef) and node not in methods:
            yield node.name, node.lineno
        elif isinstance(node, ast.arg):
            yield node.arg, node.lineno
        elif isinstance(node, ast.Name) and isinstance(node.ctx, (ast.Store, ast.Del)):
            yield node.id, node.lineno
        elif isinstance(node, ast.ExceptHandler) and node.name:
            yield node.name, node.lineno


def is_builtin(name):
    """Whether Python itself gives a name a meaning; doctest leaves a value of its own under the name _."""
    return name != "_" and hasattr(builtins, name)


def in_names(tree):
    """L8, L12, L15, L17: names that are bound, and builtins that are used."""
    found = []
    taken = {alias.name for node in tree.body if isinstance(node, ast.ImportFrom) for alias in node.names}
    classes = [node for node in ast.walk(tree) if isinstance(node, ast.ClassDef)]
    taken |= {node.name for node in classes}
    for name, line in list(bound_names(tree)) + [(node.name, node.lineno) for node in classes]:
        if is_builtin(name):
            found.append(("L15", line))
        if name in NOWHERE | NO_VARIABLES:
            found.append(("L17", line))
        if not re.fullmatch("_|_?[a-zA-Z][a-zA-Z0-9_]*", name):
            found.append(("L12", line))
    found.extend(("L15", line) for name, line in bound_names(tree) if name in taken)
    for node in ast.walk(tree):
        if isinstance(node, ast.Name) and isinstance(node.ctx, ast.Load):
            if node.id == "_":
                found.append(("L12", node.lineno))
            if is_builtin(node.id) and node.id not in BUILTINS:
                found.append(("L8", node.lineno))
        if isinstance(node, ast.Attribute) and (node.attr in NOWHERE or node.attr in ("format", "format_map")):
            found.append(("L17", node.lineno))
        if isinstance(node, ast.keyword) and node.arg in NOWHERE | {"self"}:
            found.append(("L17", node.value.lineno))
    return found


def in_families(trees):
    """L5, L18, L23: no name is a method and an attribute; a class with a len is true; generators have their own names."""
    found = []
    defined = [(name, node) for name, tree in trees.items() for node in ast.walk(tree) if isinstance(node, ast.FunctionDef)]
    stored = {node.attr for tree in trees.values() for node in ast.walk(tree)
              if isinstance(node, ast.Attribute) and isinstance(node.ctx, ast.Store)}
    yielding = {node.name for _, node in defined
                if any(isinstance(part, (ast.Yield, ast.YieldFrom)) for part in ast.walk(node))}
    names = [node.name for _, node in defined]
    for name, node in defined:
        if node.name in yielding and (node.decorator_list or names.count(node.name) > 1):
            found.append((name, "L23", node.lineno))
    for name, tree in trees.items():
        for owner in [node for node in ast.walk(tree) if isinstance(node, ast.ClassDef)]:
            methods = {part.name: part for part in owner.body if isinstance(part, ast.FunctionDef)}
            found.extend((name, "L18", part.lineno) for part in methods.values() if part.name in stored)
            if "__len__" in methods and "__bool__" not in methods:
                found.append((name, "truth", owner.lineno))
    return found + generator_calls(trees, yielding)


def generator_calls(trees, yielding):
    """L23: a generator is called only where it is iterated at once, with names, attributes and literals."""
    found = []
    for name, tree in trees.items():
        parents = {child: node for node in ast.walk(tree) for child in ast.iter_child_nodes(node)}
        for node in ast.walk(tree):
            if not isinstance(node, ast.Name) or node.id not in yielding:
                continue
            call = parents[node]
            if not isinstance(call, ast.Call) or call.func is not node:
                found.append((name, "L23", node.lineno))
                continue
            parent = parents[call]
            looped = isinstance(parent, (ast.For, ast.comprehension)) and parent.iter is call
            if not looped and called(parent) not in ("list", "tuple"):
                found.append((name, "L23", node.lineno))
            if not all(isinstance(part, (ast.Name, ast.Attribute, ast.Constant)) for part in call.args) or call.keywords:
                found.append((name, "L23", node.lineno))
    return found


def changed_names(node):
    """The names and attributes, written out, of which a statement or call in a loop changes items."""
    for part in ast.walk(node):
        if isinstance(part, ast.Call) and isinstance(part.func, ast.Attribute):
            if part.func.attr in ("append", "pop", "extend", "insert", "remove", "clear", "update", "setdefault", "add", "discard"):
                yield ast.unparse(part.func.value)
        if isinstance(part, ast.Call) and called(part) in ("heappush", "heappop"):
            yield ast.unparse(part.args[0])
        if isinstance(part, ast.Subscript) and isinstance(part.ctx, (ast.Store, ast.Del)):
            yield ast.unparse(part.value)


def bare_names(value):
    """The names that a value may be, without a call: a name, or a choice between names."""
    if isinstance(value, ast.IfExp):
        return bare_names(value.body) | bare_names(value.orelse)
    if isinstance(value, ast.BoolOp):
        return set().union(*[bare_names(part) for part in value.values])
    return {value.id} if isinstance(value, ast.Name) else set()


def shared_names(owner):
    """For each name of a function the names that it may share a list with, since one is assigned the other."""
    groups = {}
    for node in ast.walk(owner):
        if isinstance(node, ast.Assign):
            names = bare_names(node.value) | {target.id for target in node.targets if isinstance(target, ast.Name)}
            if bare_names(node.value):
                whole = names.union(*[groups.get(name, set()) for name in names])
                groups.update({name: whole for name in whole})
    return groups


def in_loops(tree):
    """L5, L23: what a loop goes over is not changed in it, also not by another name of the function for it."""
    found = set()
    for owner in [tree] + [node for node in ast.walk(tree) if isinstance(node, ast.FunctionDef)]:
        groups = shared_names(owner) if isinstance(owner, ast.FunctionDef) else {}
        for node in [part for part in ast.walk(owner) if isinstance(part, ast.For)]:
            parts = [part for part in ast.walk(node.iter) if isinstance(part, (ast.Name, ast.Attribute, ast.Subscript))]
            heads = {ast.unparse(part) for part in parts}
            stored = {part.id for step in node.body + [node.target] for part in ast.walk(step)
                      if isinstance(part, ast.Name) and isinstance(part.ctx, ast.Store)}
            changed = {name for step in node.body for name in changed_names(step)}
            if heads & (stored | changed) or heads.union(*[groups.get(head, set()) for head in heads]) & changed:
                found.add(("L23", node.lineno))
    return sorted(found)


def in_own_attributes(tree):
    """L26: names of methods and attributes that values of Python have, too."""
    found = []
    for owner in [node for node in ast.walk(tree) if isinstance(node, ast.ClassDef)]:
        for part in owner.body:
            if isinstance(part, ast.FunctionDef) and not part.name.startswith("__"):
                if part.name in NOWHERE | NO_VARIABLES or part.name in BUILT_IN_NAMES - METHODS:
                    found.append(("L26", part.lineno))
    for node in ast.walk(tree):
        if isinstance(node, ast.Attribute) and isinstance(node.ctx, ast.Store):
            if node.attr in BUILT_IN_NAMES - ATTRIBUTES or node.attr in NOWHERE | {"args"}:
                found.append(("L26", node.lineno))
    return found


def in_statements(tree):
    """L6, L7, L19, L20, L27: statements and expressions that do not stand."""
    found = []
    for node in ast.walk(tree):
        line = getattr(node, "lineno", 0)
        if isinstance(node, BANNED):
            found.append(("L6", line))
        if isinstance(node, ast.Constant) and isinstance(node.value, (float, complex)):
            found.append(("L7", line))
        if isinstance(node, ast.BinOp) and isinstance(node.op, ast.Pow) and not isinstance(node.right, ast.Constant):
            found.append(("L27", line))
        if isinstance(node, ast.Compare) and any(isinstance(sign, (ast.Is, ast.IsNot)) for sign in node.ops):
            sides = [node.left] + node.comparators
            if not any(isinstance(side, ast.Constant) and side.value in (None, True, False) for side in sides):
                found.append(("L20", line))
        if isinstance(node, ast.Raise) and node.exc is not None:
            if not isinstance(node.exc, ast.Call) or not isinstance(node.exc.func, ast.Name):
                found.append(("L19", line))
        if isinstance(node, ast.ExceptHandler):
            kinds = node.type.elts if isinstance(node.type, ast.Tuple) else [node.type]
            if not all(isinstance(kind, ast.Name) and kind.id not in UNCAUGHT for kind in kinds):
                found.append(("L19", line))
        if isinstance(node, ast.Constant) and isinstance(node.value, str) and re.fullmatch("__.*__", node.value):
            found.append(("L27", line))
    return found


def in_calls(tree, own):
    """L22, L25, L26: keywords of builtins, and methods that are called."""
    found = []
    for node in ast.walk(tree):
        if not isinstance(node, ast.Call):
            continue
        names = {word.arg for word in node.keywords}
        if isinstance(node.func, ast.Name) and hasattr(builtins, node.func.id):
            if names - KEYWORDS.get(node.func.id, set()):
                found.append(("L22", node.lineno))
        if isinstance(node.func, ast.Attribute):
            if node.func.attr not in METHODS | own | {"__init__"}:
                found.append(("L25", node.lineno))
            if node.func.attr in METHODS - own and names:
                found.append(("L25", node.lineno))
            if isinstance(node.func.value, ast.Constant) and node.func.attr != "join":
                found.append(("L7", node.lineno))
    return found


def is_view(node):
    """Whether a call gives what is iterated at once."""
    if not isinstance(node, ast.Call):
        return False
    if isinstance(node.func, ast.Name):
        return node.func.id in VIEWS
    return isinstance(node.func, ast.Attribute) and node.func.attr in ("items", "keys", "values")


def is_set(node):
    """Whether an expression is a set that is written there."""
    if isinstance(node, (ast.Set, ast.SetComp)):
        return True
    return isinstance(node, ast.Call) and isinstance(node.func, ast.Name) and node.func.id in ("set", "frozenset")


def called(node):
    """The bare name that a node calls, or the empty string."""
    return node.func.id if isinstance(node, ast.Call) and isinstance(node.func, ast.Name) else ""


def in_iteration(tree, parents):
    """L23, L24: what is iterated on the spot, and sets."""
    found = []
    for node in ast.walk(tree):
        parent = parents.get(node)
        if is_view(node):
            looped = isinstance(parent, (ast.For, ast.comprehension)) and parent.iter is node
            ranged = called(node) == "range" and (called(parent) in ("reversed", "len") or isinstance(parent, ast.Compare))
            kept = isinstance(parent, ast.Assign) and called(node) == "range"
            if not (looped or ranged or kept or called(parent) in AT_ONCE):
                found.append(("L23", node.lineno))
        if is_set(node):
            compared = isinstance(parent, ast.Compare) and parent.left is not node
            joined = isinstance(parent, ast.BinOp)
            stored = isinstance(parent, ast.Assign) and isinstance(parent.targets[0], ast.Name)
            if not (compared or joined or stored or called(parent) in ("sorted", "len")):
                found.append(("L24", node.lineno))
    for owner in [node for node in ast.walk(tree) if isinstance(node, ast.FunctionDef)]:
        found.extend(stored_sets(owner))
    return found


def stored_sets(owner):
    """L24: local variables that hold sets are not iterated, returned or assigned again."""
    assigned = [node for node in ast.walk(owner) if isinstance(node, ast.Assign)]
    names = {node.targets[0].id for node in assigned if is_set(node.value) and isinstance(node.targets[0], ast.Name)}
    found = []
    for node in ast.walk(owner):
        parts = [node.iter] if isinstance(node, (ast.For, ast.comprehension)) else []
        parts = [node.value] if isinstance(node, ast.Return) else parts
        found.extend(("L24", owner.lineno) for part in parts if isinstance(part, ast.Name) and part.id in names)
    stores = [node.id for node in ast.walk(owner) if isinstance(node, ast.Name) and isinstance(node.ctx, ast.Store)]
    return found + [("L24", owner.lineno) for name in names if stores.count(name) > 1]


def in_class_names(tree, parents, classes):
    """L18: classes are called, caught, raised, tested for and inherited from, nothing else."""
    found = []
    for node in ast.walk(tree):
        if not isinstance(node, ast.Name) or node.id not in classes:
            continue
        parent = parents.get(node)
        if isinstance(parent, ast.Tuple):
            parent = parents.get(parent)
        tested = called(parent) == "isinstance" and parent.args[0] is not node
        made = isinstance(parent, ast.Call) and parent.func is node
        read = isinstance(parent, ast.Attribute)
        if not (tested or made or read or isinstance(parent, (ast.ClassDef, ast.ExceptHandler))):
            found.append(("L18", node.lineno))
    return found


def outside_functions(tree):
    """L7: comprehensions stand in functions only."""
    inside = {part for node in ast.walk(tree) if isinstance(node, FUNCTIONS) for part in ast.walk(node)}
    rows = [node for node in ast.walk(tree) if isinstance(node, COMPREHENSIONS) and node not in inside]
    return [("L7", node.lineno) for node in rows]


def definitions_of(tree):
    """The names that a file defines at module level."""
    names = {node.name for node in tree.body if isinstance(node, (ast.FunctionDef, ast.ClassDef))}
    assigned = [node for node in tree.body if isinstance(node, ast.Assign)]
    return names | {target.id for node in assigned for target in node.targets if isinstance(target, ast.Name)}


def own_methods(trees):
    """All names of methods of the package."""
    owners = [node for tree in trees for node in ast.walk(tree) if isinstance(node, ast.ClassDef)]
    return {part.name for owner in owners for part in owner.body if isinstance(part, ast.FunctionDef)}


def faults(files):
    """All faults of a dict from names of files, without their endings, to texts: (name, rule, line)."""
    trees = {name: ast.parse(text) for name, text in files.items()}
    definitions = {name: definitions_of(tree) for name, tree in trees.items()}
    classes = {node.name for tree in trees.values() for node in tree.body if isinstance(node, ast.ClassDef)}
    own = own_methods(trees.values())
    found = []
    for name, tree in trees.items():
        parents = {child: node for node in ast.walk(tree) for child in ast.iter_child_nodes(node)}
        rows = in_text(files[name]) + in_tokens(files[name], tree) + at_module_level(tree)
        rows += in_imports(tree, definitions) + unused_imports(tree) + in_functions(tree) + in_classes(tree)
        rows += in_names(tree) + in_own_attributes(tree) + in_statements(tree) + in_calls(tree, own)
        rows += in_loops(tree) + in_iteration(tree, parents) + in_class_names(tree, parents, classes) + outside_functions(tree)
        found.extend((name, rule, line) for rule, line in rows)
    return found + in_families(trees)

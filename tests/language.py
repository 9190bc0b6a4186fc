"""Reads a package and tells where it leaves the rules of LANGUAGE.md.

Where a rule says "best none" or "best don't", or can be read more than one way, the narrower reading is held:
no annotations, no docstring but a file's, no method with two underscores but __init__.
Not seen are: how deep a recursion goes (L11), what another name for a list or a set does (L15, L23, L24),
what an error taken by name was raised by (L19), and which kind of value a method is called on (L25).
"""

import ast
import builtins
import re

CALLED = set(
    "len range enumerate zip min max sum abs sorted reversed int str bool list tuple dict set frozenset "
    "isinstance ord chr repr any all divmod".split()
)
ERRORS = set(
    "Exception ValueError TypeError KeyError IndexError LookupError ZeroDivisionError ArithmeticError "
    "OverflowError RuntimeError NotImplementedError AttributeError StopIteration".split()
)
METHODS = set(
    "append clear copy count endswith extend find get index insert isalnum isalpha isdigit islower isspace "
    "isupper items join keys ljust lower lstrip partition pop remove replace reverse rfind rjust rpartition "
    "rsplit rstrip setdefault split splitlines startswith strip update upper values zfill bit_length".split()
)
CHANGES = set("append clear extend insert pop remove reverse setdefault update add discard".split())
VALUES_TOO = set("count index title find get join lower upper split strip copy add".split())
NO_VALUES = set(
    "items keys values pop update append clear extend insert remove reverse setdefault sort args encode format".split()
)
PYTHON_ATTRIBUTES = {name for kind in (str, int, list, tuple, dict, set, frozenset, bytes) for name in dir(kind)}
PYTHON_NAMES = set(dir(builtins))
TWO_UNDERSCORES = {"__init__", "__all__", "__version__", "__name__"}
LAZY_CALLS = {"zip", "enumerate", "reversed", "range"}
LAZY_METHODS = {"items", "keys", "values"}
WALKERS = {"list", "tuple", "dict", "sorted", "sum", "any", "all", "enumerate", "zip"}
KEY_NAMES = {"len", "int", "str", "abs", "sum", "min", "max", "tuple"}
KINDS = {"int", "str", "bool", "list", "tuple", "dict"}
KEYWORDS = {
    "sorted": {"key", "reverse"},
    "min": {"key", "default"},
    "max": {"key", "default"},
    "sum": {"start"},
    "enumerate": {"start"},
    "zip": {"strict"},
}
READERS = {"len", "list", "dict", "tuple", "sorted", "min", "max", "sum", "any", "all", "set"} | LAZY_CALLS
READ_METHODS = {"get", "items", "keys", "values", "index", "count", "copy"}
NEVER_WORDS = set(
    "type typing typing_extensions enum Enum IntEnum StrEnum Flag IntFlag Generic Protocol ABC ABCMeta namedtuple "
    "NamedTuple TypedDict TYPE_CHECKING abstractmethod".split()
)
NEVER_WITHIN = ("dataclass", "overload", "contextmanager")
NEVER_ANYWHERE = set("register mro elements open input version_info with_traceback add_note".split())
NEVER_NAMES = set(
    "attrgetter breakpoint builtins compile copyright credits delattr dir eval exec exit gc getattr globals hasattr "
    "help id importlib license locals methodcaller os quit setattr super type vars".split()
)
NEVER_FILES = {"test", "tests", "testing", "site", "conftest", "sitecustomize", "usercustomize"}
FRAME_NAME = re.compile(r"(f|tb|co|gi|cr|ag)_[a-z]+$")
PLAIN_NAME = re.compile(r"[A-Za-z][A-Za-z0-9_]*$")
SIMPLE = (ast.Return, ast.Break, ast.Continue, ast.Pass, ast.If)
STATEMENTS = SIMPLE + (ast.Assign, ast.AugAssign, ast.While, ast.For, ast.Raise, ast.Try, ast.FunctionDef, ast.Expr)
OPERATORS = (
    ast.Add, ast.Sub, ast.Mult, ast.FloorDiv, ast.Mod, ast.Pow,
    ast.BitAnd, ast.BitOr, ast.BitXor, ast.LShift, ast.RShift,
)
EXPRESSIONS = (
    ast.Constant, ast.List, ast.Tuple, ast.Dict, ast.Set, ast.BinOp, ast.UnaryOp, ast.BoolOp, ast.Compare, ast.IfExp,
    ast.Call, ast.Attribute, ast.Subscript, ast.Slice, ast.ListComp, ast.JoinedStr, ast.FormattedValue, ast.Lambda,
    ast.Name,
)


class Source:
    """One file of the package, read."""

    def __init__(self, folder, path):
        self.path = path
        self.shown = path.relative_to(folder.parent).as_posix()
        parts = path.relative_to(folder.parent).with_suffix("").parts
        self.module = ".".join(parts[:-1] if parts[-1] == "__init__" else parts)
        self.is_main = path.name == "__main__.py"
        self.text = path.read_bytes().decode("utf-8")
        self.tree = ast.parse(self.text)
        self.nodes = list(ast.walk(self.tree))
        self.parents = {child: node for node in self.nodes for child in ast.iter_child_nodes(node)}
        self.defs = {}
        self.imports = {}
        self.bindings = []
        for node in self.tree.body:
            self.bind(node)

    def bind(self, node):
        if isinstance(node, ast.ImportFrom):
            for alias in node.names:
                self.imports[alias.asname or alias.name] = (node.module, alias.name)
                self.bindings.append((alias.asname or alias.name, node))
        elif isinstance(node, (ast.FunctionDef, ast.ClassDef)):
            self.defs[node.name] = node
            self.bindings.append((node.name, node))
        elif isinstance(node, ast.Assign):
            for target in node.targets:
                if isinstance(target, ast.Name):
                    self.defs[target.id] = node.value
                    self.bindings.append((target.id, node))

    def of(self, *kinds):
        return [node for node in self.nodes if isinstance(node, kinds)]

    def outermost(self, node):
        """The def, standing in no other def, that the node lies in."""
        found = None
        while node is not None:
            if isinstance(node, (ast.FunctionDef, ast.Lambda)):
                found = node
            node = self.parents.get(node)
        return found

    def locals_round(self, node):
        outer = self.outermost(node)
        names = set()
        for inner in ast.walk(outer) if outer is not None else []:
            if isinstance(inner, ast.arg):
                names.add(inner.arg)
            elif isinstance(inner, ast.Name) and isinstance(inner.ctx, ast.Store):
                names.add(inner.id)
            elif isinstance(inner, ast.ExceptHandler) and inner.name:
                names.add(inner.name)
            elif isinstance(inner, ast.FunctionDef) and inner is not outer:
                names.add(inner.name)
        return names


class Package:
    def __init__(self, folder):
        self.folder = folder
        self.paths = [path for path in sorted(folder.rglob("*")) if "__pycache__" not in path.parts]
        self.sources = [Source(folder, path) for path in self.paths if path.suffix == ".py"]
        self.by_module = {source.module: source for source in self.sources}
        classes = [node for source in self.sources for node in source.of(ast.ClassDef)]
        self.methods = {m.name for c in classes for m in c.body if isinstance(m, ast.FunctionDef)}
        self.values = {
            node.attr
            for source in self.sources
            for node in source.of(ast.Attribute)
            if isinstance(node.ctx, ast.Store)
        }

    def meaning(self, source, name):
        """What a name of a file's top stands for, through an import too."""
        if name in source.imports:
            module, theirs = source.imports[name]
            other = self.by_module.get(module)
            return other.defs.get(theirs) if other else None
        return source.defs.get(name)

    def is_class(self, source, name):
        return isinstance(self.meaning(source, name), ast.ClassDef)

    def is_table(self, source, name):
        return isinstance(self.meaning(source, name), (ast.List, ast.Dict))


def call_name(node):
    """The plain name that a call calls, or None."""
    if isinstance(node, ast.Call) and isinstance(node.func, ast.Name):
        return node.func.id
    return None


def root(node):
    while isinstance(node, (ast.Attribute, ast.Subscript)):
        node = node.value
    return node.id if isinstance(node, ast.Name) else None


def is_plain(node, functions=()):
    if isinstance(node, ast.UnaryOp) and isinstance(node.op, ast.USub):
        return isinstance(node.operand, ast.Constant)
    if isinstance(node, (ast.List, ast.Tuple)):
        return all(is_plain(item, functions) for item in node.elts)
    if isinstance(node, ast.Dict):
        items = node.keys + node.values
        return all(item is not None and is_plain(item, functions) for item in items)
    return isinstance(node, ast.Constant) or isinstance(node, ast.Name) and node.id in functions


def is_set(node):
    if isinstance(node, ast.BinOp):
        return is_set(node.left) or is_set(node.right)
    return isinstance(node, ast.Set) or call_name(node) in ("set", "frozenset")


def folder_faults(package):
    for path in [package.folder] + package.paths:
        shown = path.relative_to(package.folder.parent).as_posix()
        if path.is_dir():
            if not (path / "__init__.py").is_file():
                yield "L14", shown, "no __init__.py"
        elif path.suffix != ".py":
            yield "L1", shown, "not a .py file"
        name = path.stem if path.suffix == ".py" else path.name
        if not re.match(r"[A-Za-z0-9_]+$", name):
            yield "L1", shown, "no plain name"
        if name != name.lower():
            yield "L14", shown, "not in lower-case letters"
        if name in NEVER_FILES | NEVER_WORDS | PYTHON_NAMES or name.startswith("test_"):
            yield "L14", shown, "a name that no file has"
        if name == "__main__" and path.parent != package.folder:
            yield "L14", shown, "__main__.py lower than the top"


def text_faults(package, source):
    lines = source.text.split("\n")
    if len(source.text.splitlines()) > 400:
        yield "L10", 400, "a file of more than 400 lines"
    for number, line in enumerate(lines, start=1):
        if len(line) > 120:
            yield "L10", number, "a line of more than 120 characters"
        if "\t" in line:
            yield "L10", number, "a tab"
        if any(not " " <= sign <= "~" for sign in line):
            yield "L14", number, "a sign outside of blank to ~"
        words = re.findall(r"[A-Za-z0-9_]+", line)
        if NEVER_WORDS.intersection(words) or any(part in line for part in NEVER_WITHIN):
            yield "L17", number, "a word that stands nowhere"
        if "\\" in re.sub(r"\\[nt\\'\"]", "", line):
            yield "L27", number, "an escape that is not used"


def top_faults(package, source):
    functions = set()
    last = source.tree.body[-1] if source.tree.body else None
    for place, node in enumerate(source.tree.body):
        if isinstance(node, ast.FunctionDef):
            functions.add(node.name)
        elif isinstance(node, ast.Assign):
            named = len(node.targets) == 1 and isinstance(node.targets[0], ast.Name)
            if not named or not is_plain(node.value, functions):
                yield "L3", node.lineno, "no plain value"
            if isinstance(node.value, (ast.List, ast.Dict)):
                inner = [item for item in ast.walk(node.value) if isinstance(item, (ast.List, ast.Dict))]
                if len(inner) > 1:
                    yield "L15", node.lineno, "a list or dict within one at a file's top"
        elif isinstance(node, ast.If):
            if not (source.is_main and node is last and ast.unparse(node.test) == "__name__ == '__main__'"):
                yield "L3", node.lineno, "something done at a file's top"
        elif isinstance(node, ast.Expr):
            if place > 0 or not isinstance(node.value, ast.Constant) or not isinstance(node.value.value, str):
                yield "L3", node.lineno, "something done at a file's top"
        elif not isinstance(node, (ast.ClassDef, ast.Import, ast.ImportFrom)):
            yield "L3", node.lineno, "what a file's top does not hold"
    names = [name for name, node in source.bindings]
    for name, node in source.bindings:
        if names.count(name) > 1:
            yield "L15", node.lineno, f"{name} is bound more than once"


def import_faults(package, source):
    for node in source.of(ast.Import):
        if not source.is_main or [(a.name, a.asname) for a in node.names] != [("sys", None)]:
            yield "L16", node.lineno, "an import that is not from .. import"
    for node in source.of(ast.ImportFrom):
        if source.parents[node] is not source.tree:
            yield "L2", node.lineno, "an import lower than the top"
        if node.module == "__future__" and [alias.name for alias in node.names] == ["annotations"]:
            continue
        if node.level or node.module.split(".")[0] != package.folder.name:
            yield "L2", node.lineno, "an import from elsewhere, or with a leading dot"
            continue
        if node.module.endswith("__main__"):
            yield "L2", node.lineno, "an import of __main__"
        other = package.by_module.get(node.module)
        for alias in node.names:
            if alias.name == "*":
                yield "L2", node.lineno, "import *"
            elif other is None or alias.name not in other.defs:
                yield "L16", node.lineno, f"{alias.name} is not defined there"
    if source.path.name == "__init__.py":
        stems = {path.stem for path in source.path.parent.iterdir()}
        for name, node in source.bindings:
            if name in stems:
                yield "L16", node.lineno, f"{name} is a file's name"


def drawn_from(package, source):
    found = set()
    for module, name in source.imports.values():
        parts = (module or "").split(".")
        found.update(".".join(parts[:count]) for count in range(1, len(parts) + 1))
    return found & set(package.by_module)


def circle_faults(package):
    draws = {source.module: drawn_from(package, source) for source in package.sources}
    for source in package.sources:
        reached = set()
        ahead = list(draws[source.module])
        while ahead:
            module = ahead.pop()
            if module not in reached:
                reached.add(module)
                ahead.extend(draws[module])
        if source.module in reached:
            yield "L16", source.shown, "it draws from itself, in some steps"


def def_faults(package, source):
    for node in source.of(ast.FunctionDef, ast.Lambda):
        args = node.args
        if args.vararg or args.kwarg or args.kwonlyargs or args.posonlyargs:
            yield "L4", node.lineno, "a parameter that is not plain"
        if not all(is_plain(value) for value in args.defaults):
            yield "L4", node.lineno, "a default that is not plain"
        if any(arg.annotation for arg in args.args):
            yield "L21", node.lineno, "an annotation"
    for node in source.of(ast.FunctionDef):
        if node.decorator_list:
            yield "L4", node.lineno, "a decorator"
        if node.returns:
            yield "L21", node.lineno, "an annotation"
        if node.end_lineno - node.lineno + 1 > 40:
            yield "L10", node.lineno, "a function of more than 40 lines"
        outer = source.outermost(node)
        if outer is not node:
            inner = set(ast.walk(node))
            around = {name for item in ast.walk(outer) if item not in inner for name in bound(source, item)}
            for item in inner:
                target = isinstance(item, ast.Name) and isinstance(item.ctx, ast.Store)
                if target and item.id in around:
                    yield "L4", item.lineno, f"{item.id} of the def around is assigned"
    shapes = [(node.lineno, ast.unparse(node.args)) for node in source.of(ast.Lambda)]
    for shape in set(shapes):
        if shapes.count(shape) > 1:
            yield "L13", shape[0], "two lambdas alike on one line"


def class_faults(package, source):
    for node in source.of(ast.ClassDef):
        if source.parents[node] is not source.tree:
            yield "L15", node.lineno, "a class that stands lower than the top"
        if node.decorator_list or node.keywords or len(node.bases) > 1:
            yield "L5", node.lineno, "a decorator, a keyword or several bases"
        for base in node.bases:
            name = base.id if isinstance(base, ast.Name) else ""
            if not package.is_class(source, name) and name not in ERRORS:
                yield "L5", node.lineno, "a base that is no class of the package and no error class"
            if name in ("StopIteration", "AttributeError"):
                yield "L18", node.lineno, f"an error class under {name}"
        names = [item.name for item in node.body if isinstance(item, ast.FunctionDef)]
        for item in node.body:
            if not isinstance(item, (ast.FunctionDef, ast.Pass)):
                yield "L5", item.lineno, "a class holds methods alone"
        for name in names:
            if names.count(name) > 1:
                yield "L18", node.lineno, f"{name} stands twice"
            if name in package.values:
                yield "L18", node.lineno, f"{name} is a method here and a value elsewhere"
            if name.startswith("__") and name != "__init__":
                yield "L28", node.lineno, f"{name} is written"
            elif name in PYTHON_ATTRIBUTES - METHODS - {"add", "discard", "__init__"}:
                yield "L26", node.lineno, f"{name} is a method of Python's own"
        for item in node.body:
            if isinstance(item, ast.FunctionDef) and item.name == "__init__":
                if any(isinstance(inner, ast.Return) and inner.value for inner in ast.walk(item)):
                    yield "L28", item.lineno, "__init__ gives something back"


def class_use_faults(package, source):
    for node in source.of(ast.Name):
        if not isinstance(node.ctx, ast.Load) or not package.is_class(source, node.id):
            continue
        parent = source.parents[node]
        if isinstance(parent, ast.Tuple):
            parent = source.parents[parent]
        called = isinstance(parent, ast.Call) and parent.func is node or call_name(parent) == "isinstance"
        above = isinstance(parent, ast.Attribute) and parent.attr == "__init__"
        if not called and not above and not isinstance(parent, (ast.ClassDef, ast.ExceptHandler)):
            yield "L18", node.lineno, f"the class {node.id} is kept or handed on"


def has_several_targets(node):
    return len(node.targets) > 1 or isinstance(node.targets[0], (ast.Tuple, ast.List))


def statement_faults(package, source):
    for node in source.of(ast.stmt):
        if source.parents[node] is source.tree or isinstance(source.parents[node], ast.ClassDef):
            continue
        if not isinstance(node, STATEMENTS):
            yield "L6", node.lineno, f"{node.__class__.__name__.lower()} is not used"
        elif isinstance(node, ast.Expr) and not isinstance(node.value, ast.Call):
            yield "L6", node.lineno, "a value by itself"
        elif isinstance(node, ast.Assign) and has_several_targets(node):
            yield "L6", node.lineno, "several targets"
        elif isinstance(node, (ast.For, ast.While)) and node.orelse:
            yield "L6", node.lineno, "else behind a loop"
        elif isinstance(node, ast.Try) and node.finalbody:
            yield "L6", node.lineno, "finally"
    for node in source.of(ast.AnnAssign):
        yield "L21", node.lineno, "an annotation"
    for node in source.of(ast.Attribute, ast.Subscript):
        if isinstance(node.ctx, ast.Store) and root(node) not in source.locals_round(node):
            yield "L18", node.lineno, "a value given through no local name"


def expression_faults(package, source):
    for node in source.of(ast.expr):
        if not isinstance(node, EXPRESSIONS):
            yield "L7", node.lineno, f"{node.__class__.__name__.lower()} is not used"
    for node in source.of(ast.BinOp, ast.AugAssign):
        if not isinstance(node.op, OPERATORS):
            yield "L7", node.lineno, "an operator that is not used"
        power = node.right if isinstance(node, ast.BinOp) else node.value
        if isinstance(node.op, ast.Pow):
            if not isinstance(power, ast.Constant) or power.value not in range(65):
                yield "L27", node.lineno, "an exponent that is not written, or not 0 to 64"
    for node in source.of(ast.Constant):
        if not isinstance(node.value, (int, str, type(None))):
            yield "L7", node.lineno, "a value of a kind that is not used"
        if isinstance(node.value, str) and "%" in node.value:
            yield "L27", node.lineno, "a percent sign within a text"
        if isinstance(node.value, int) and node.value >= 10 ** 900:
            yield "L27", node.lineno, "a number of more than 900 digits"
    for node in source.of(ast.ListComp):
        if len(node.generators) > 1 or len(node.generators[0].ifs) > 1 or node.generators[0].is_async:
            yield "L7", node.lineno, "a comprehension with more than one for and one if"
    for node in source.of(ast.FormattedValue):
        if not isinstance(node.value, ast.Name) or node.conversion not in (-1, ord("r")) or node.format_spec:
            yield "L7", node.lineno, "an f-string with more than a name"
    for node in source.of(ast.Dict):
        if None in node.keys:
            yield "L7", node.lineno, "a star"
    for node in source.of(ast.Compare):
        if any(isinstance(op, (ast.Is, ast.IsNot)) for op in node.ops):
            sides = [node.left] + node.comparators
            if not any(isinstance(s, ast.Constant) and s.value in (None, True, False) for s in sides):
                yield "L20", node.lineno, "is, beside no None, True or False"


def named(node):
    """The names that a node brings in or uses."""
    if isinstance(node, ast.Name):
        return [node.id]
    if isinstance(node, ast.Attribute):
        return [node.attr]
    if isinstance(node, (ast.arg, ast.keyword)):
        return [node.arg] if node.arg else []
    if isinstance(node, (ast.FunctionDef, ast.ClassDef, ast.ExceptHandler)):
        return [node.name] if node.name else []
    if isinstance(node, ast.alias):
        return [node.asname or node.name]
    return []


def bound(source, node):
    """The names that a node binds, but methods and values of objects."""
    if isinstance(node, ast.Name) and not isinstance(node.ctx, ast.Store):
        return []
    if isinstance(node, (ast.Attribute, ast.keyword)):
        return []
    if isinstance(node, ast.FunctionDef) and isinstance(source.parents[node], ast.ClassDef):
        return []
    return named(node)


def name_faults(package, source):
    classes = {name for name, node in source.bindings if isinstance(node, ast.ClassDef)}
    for node in source.nodes:
        line = getattr(node, "lineno", 0)
        for name in named(node):
            if isinstance(node, ast.alias) and name == "*":
                continue
            if name.startswith("__") and name not in TWO_UNDERSCORES:
                yield "L8", line, f"{name} begins with two underscores"
            elif name not in TWO_UNDERSCORES and not PLAIN_NAME.match(name):
                yield "L12", line, f"{name} is no plain name"
            if name in NEVER_ANYWHERE or FRAME_NAME.match(name):
                yield "L17", line, f"{name} is not used"
            if isinstance(node, ast.Attribute) and name in ("format", "format_map", "mro"):
                yield "L8", line, f"no attribute is called {name}"
            if not isinstance(node, (ast.Attribute, ast.keyword)):
                if name in NEVER_NAMES or name == "__name__" and not source.is_main:
                    yield "L17", line, f"{name} is no name here"
        for name in bound(source, node):
            if name in PYTHON_NAMES:
                yield "L15", line, f"{name} is a name of Python's own"
            elif name in classes | set(source.imports) and source.outermost(node) is not None:
                if source.parents.get(node) is not source.tree:
                    yield "L15", line, f"{name} is a class or an import of this file"
    for node in source.of(ast.Name):
        main_names = {"print", "sys", "__name__"} if source.is_main else set()
        known = CALLED | ERRORS | main_names | set(source.defs) | set(source.imports) | source.locals_round(node)
        if node.id not in known and isinstance(node.ctx, ast.Load):
            yield "L8", node.lineno, f"{node.id} is not among the names that are used"
        if node.id == "chr":
            yield "L27", node.lineno, "chr"


def table_faults(package, source):
    for node in source.of(ast.Name):
        if not isinstance(node.ctx, ast.Load) or not package.is_table(source, node.id):
            continue
        if node.id in source.locals_round(node):
            continue
        parent = source.parents[node]
        read = isinstance(parent, ast.Subscript) and parent.value is node and isinstance(parent.ctx, ast.Load)
        walked = isinstance(parent, (ast.For, ast.comprehension)) and parent.iter is node
        asked = isinstance(parent, ast.Compare) or call_name(parent) in READERS
        method = isinstance(parent, ast.Attribute) and parent.attr in READ_METHODS
        if not (read or walked or asked or method):
            yield "L15", node.lineno, f"{node.id} is more than read"


def taken_faults(package, source):
    for node in source.of(ast.ExceptHandler):
        kinds = node.type.elts if isinstance(node.type, ast.Tuple) else [node.type]
        for kind in kinds:
            name = kind.id if isinstance(kind, ast.Name) else ""
            if package.is_class(source, name) or name in ("KeyError", "ZeroDivisionError", "StopIteration"):
                continue
            if name not in ("ValueError", "LookupError", "IndexError"):
                yield "L19", node.lineno, "an error that is not taken"
            elif not is_narrow(source.parents[node].body, name):
                yield "L19", node.lineno, f"{name} taken round more than its own calls"
    for node in source.of(ast.Raise):
        name = call_name(node.exc)
        if not (name and (package.is_class(source, name) or name in ERRORS)):
            yield "L19", node.lineno, "an error that is not made on the spot"
        cause = node.cause
        handled = isinstance(cause, ast.Name) and cause.id == handler_name(source, node)
        empty = isinstance(cause, ast.Constant) and cause.value is None
        if cause is not None and not handled and not empty:
            yield "L19", node.lineno, "raised from what is no handler's error"


def handler_name(source, node):
    while node is not None and not isinstance(node, ast.ExceptHandler):
        node = source.parents.get(node)
    return node.name if node is not None else None


def is_narrow(body, name):
    if len(body) != 1 or not isinstance(body[0], (ast.Assign, ast.Return, ast.Expr)):
        return False
    for node in ast.walk(body[0]):
        if isinstance(node, (ast.JoinedStr, ast.Slice, ast.Lambda)):
            return False
        if isinstance(node, ast.BinOp) and isinstance(node.op, (ast.Mult, ast.Pow, ast.Mod, ast.LShift, ast.RShift)):
            return False
        if isinstance(node, ast.Call):
            method = node.func.attr if isinstance(node.func, ast.Attribute) else None
            if name == "IndexError" or call_name(node) not in ("int", "str") and method not in ("index", "remove"):
                return False
    return True


def call_faults(package, source):
    for node in source.of(ast.Name):
        if node.id in CALLED and isinstance(node.ctx, ast.Load):
            parent = source.parents[node]
            if isinstance(parent, ast.Tuple):
                parent = source.parents[parent]
            called = isinstance(parent, ast.Call) and parent.func is node
            kind = call_name(parent) == "isinstance" and node.id in KINDS
            key = isinstance(parent, ast.keyword) and parent.arg == "key" and node.id in KEY_NAMES
            if not (called or kind or key):
                yield "L22", node.lineno, f"{node.id} is kept as a value"
    for node in source.of(ast.Call):
        name = call_name(node)
        if name == "isinstance" and len(node.args) == 2:
            kinds = node.args[1].elts if isinstance(node.args[1], ast.Tuple) else [node.args[1]]
            if not all(isinstance(kind, ast.Name) for kind in kinds):
                yield "L22", node.lineno, "isinstance of what is no class"
        for keyword in node.keywords:
            own = name in CALLED or name in ERRORS
            method = isinstance(node.func, ast.Attribute) and node.func.attr in METHODS
            if method or own and keyword.arg not in KEYWORDS.get(name, set()):
                yield "L22", node.lineno, "a keyword at a name of Python's own"
            elif own and keyword.arg == "key" and not isinstance(keyword.value, (ast.Lambda, ast.Name, ast.Attribute)):
                yield "L22", node.lineno, "a key that is no def, lambda or method"
            elif own and keyword.arg in ("reverse", "strict") and not isinstance(keyword.value, ast.Constant):
                yield "L22", node.lineno, f"{keyword.arg} is not written True or False"


def is_lazy(node):
    if call_name(node) in LAZY_CALLS:
        return True
    return isinstance(node, ast.Call) and isinstance(node.func, ast.Attribute) and node.func.attr in LAZY_METHODS


def walk_faults(package, source):
    for node in source.of(ast.Call):
        if not is_lazy(node):
            continue
        parent = source.parents[node]
        walked = isinstance(parent, (ast.For, ast.comprehension)) and parent.iter is node
        if isinstance(parent, ast.Call):
            is_first = bool(parent.args) and parent.args[0] is node
            joined = isinstance(parent.func, ast.Attribute) and parent.func.attr == "join"
            written = joined and isinstance(parent.func.value, ast.Constant)
            alone = len(parent.args) == 1 and call_name(parent) in ("min", "max")
            walked = is_first and (call_name(parent) in WALKERS or alone or written)
        if not walked:
            yield "L23", node.lineno, "not walked on the spot"
    for node in source.of(ast.For):
        walked = {ast.dump(item) for item in walked_by(node.iter)}
        for inner in [item for line in node.body for item in ast.walk(line)]:
            changed = changed_by(inner)
            if changed is not None and as_read(changed) in walked:
                yield "L23", inner.lineno, "what the loop walks is changed in it"


def walked_by(node):
    if call_name(node) in ("enumerate", "zip", "reversed"):
        return [item for arg in node.args for item in walked_by(arg)]
    if is_lazy(node) and isinstance(node.func, ast.Attribute):
        return [node.func.value]
    return [node]


def changed_by(node):
    if isinstance(node, ast.Subscript) and isinstance(node.ctx, ast.Store):
        return node.value
    if isinstance(node, ast.AugAssign):
        return node.target
    if isinstance(node, ast.Call) and isinstance(node.func, ast.Attribute) and node.func.attr in CHANGES:
        return node.func.value
    return None


def as_read(node):
    return ast.dump(node).replace("ctx=Store()", "ctx=Load()")


def set_faults(package, source):
    for node in source.of(ast.Set, ast.Call):
        if not is_set(node):
            continue
        top = node
        while isinstance(source.parents[top], ast.BinOp):
            top = source.parents[top]
        parent = source.parents[top]
        good = call_name(parent) in ("sorted", "len") and parent.args == [top] and not parent.keywords
        if isinstance(parent, ast.Compare) and len(parent.ops) == 1:
            asked = isinstance(parent.ops[0], (ast.In, ast.NotIn)) and parent.comparators[0] is top
            alike = isinstance(parent.ops[0], (ast.Eq, ast.NotEq))
            good = asked or alike and is_set(parent.left) and is_set(parent.comparators[0])
        if not good:
            yield "L24", node.lineno, "a set is kept or walked"
        if isinstance(node, ast.Set):
            if source.outermost(node) is None:
                yield "L7", node.lineno, "a set outside of a function"
            numbers = [item for item in node.elts if isinstance(item, ast.Constant) and isinstance(item.value, int)]
            on_the_spot = isinstance(source.parents[node], ast.Compare) and isinstance(
                source.parents[node].ops[0], (ast.In, ast.NotIn)
            )
            if len(numbers) > 2 and not on_the_spot:
                yield "L13", node.lineno, "a set of three or more numbers is written out"


def method_faults(package, source):
    for node in source.of(ast.Attribute):
        if source.is_main and root(node) == "sys":
            continue
        if isinstance(node.ctx, ast.Store):
            allowed = node.attr not in PYTHON_ATTRIBUTES or node.attr in VALUES_TOO
            if not allowed or node.attr in NO_VALUES:
                yield "L26", node.lineno, f"no value of an object is called {node.attr}"
            continue
        parent = source.parents[node]
        if isinstance(parent, ast.Call) and parent.func is node:
            if node.attr not in METHODS | package.methods | {"__init__"}:
                yield "L25", node.lineno, f"{node.attr} is not among the methods that are used"
        elif node.attr not in package.values:
            key = isinstance(parent, ast.keyword) and parent.arg == "key" and node.attr in package.methods
            if not key:
                yield "L25", node.lineno, f"{node.attr} is handed on, or no value of an object"


FILE_RULES = (
    text_faults, top_faults, import_faults, def_faults, class_faults, class_use_faults, statement_faults,
    expression_faults, name_faults, table_faults, taken_faults, call_faults, walk_faults, set_faults, method_faults,
)


def faults(folder):
    """A sorted list of texts, one for each place that leaves a rule."""
    package = Package(folder)
    found = [f"{shown}: {rule}: {what}" for rule, shown, what in folder_faults(package)]
    found += [f"{shown}: {rule}: {what}" for rule, shown, what in circle_faults(package)]
    for source in package.sources:
        for rule_faults in FILE_RULES:
            for rule, line, what in rule_faults(package, source):
                found.append(f"{source.shown}:{line}: {rule}: {what}")
    return sorted(set(found))

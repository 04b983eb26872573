"""Finds what does not keep to the language rules (L1 to L28) in the package's files.

Where a rule leaves more room than this project needs, the stricter form is asked for here
(no try, no set, no nested def, no annotation): simpler code and a simpler check.
"""

import ast
import re

STATEMENTS = (
    ast.Assign, ast.AugAssign, ast.If, ast.While, ast.For, ast.Return, ast.Break, ast.Continue, ast.Pass,
    ast.Raise, ast.Expr)
EXPRESSIONS = (
    ast.Constant, ast.Name, ast.List, ast.Tuple, ast.Dict, ast.BinOp, ast.UnaryOp, ast.BoolOp, ast.Compare, ast.IfExp,
    ast.Call, ast.Attribute, ast.Subscript, ast.Slice, ast.ListComp, ast.JoinedStr, ast.FormattedValue, ast.Lambda)
FUNCTIONS = set(
    "len range enumerate zip min max sum abs sorted reversed int str bool list tuple dict isinstance ord repr any all"
    " divmod".split())
ERRORS = set(
    "Exception ValueError TypeError KeyError IndexError LookupError ZeroDivisionError ArithmeticError OverflowError"
    " RuntimeError NotImplementedError AttributeError StopIteration".split())
WALKED = {"zip", "enumerate", "reversed", "range"}
WALKERS = {"list", "tuple", "dict", "sorted", "sum", "any", "all", "enumerate", "zip"}
KEYWORDS = {
    "sorted": {"key", "reverse"}, "min": {"key", "default"}, "max": {"key", "default"}, "sum": {"start"},
    "enumerate": {"start"}, "zip": {"strict"}}
METHODS = set(
    "append clear copy count endswith extend find get index insert isalnum isalpha isdigit islower isspace isupper"
    " items join keys ljust lower lstrip partition pop remove replace reverse rfind rjust rpartition rsplit rstrip setdefault"
    " split splitlines startswith strip update upper values zfill bit_length".split())
CHANGES = {"append", "clear", "extend", "insert", "pop", "remove", "reverse", "setdefault", "update"}
TAKEN = {name for kind in (str, int, list, dict, set, bytes, tuple) for name in dir(kind)}
NOT_NAMES = set(
    "register mro elements open input version_info with_traceback add_note attrgetter breakpoint builtins compile"
    " copyright credits delattr dir eval exec exit gc getattr globals hasattr help id importlib license locals"
    " methodcaller os quit setattr super type vars sys format format_map".split())
NOT_WORDS = re.compile(
    r"\b(type|typing|typing_extensions|enum|Enum|IntEnum|StrEnum|Flag|IntFlag|Generic|Protocol|ABC|ABCMeta|namedtuple"
    r"|NamedTuple|TypedDict|TYPE_CHECKING|abstractmethod)\b|dataclass|overload|contextmanager")
NOT_FILES = re.compile(r"tests?|testing|test_.*|site|conftest|sitecustomize|usercustomize")
BUILT_IN = set(dir(__builtins__) if not isinstance(__builtins__, dict) else __builtins__)


def is_plain(node):
    """A plain value of a file's top: numbers, texts, tuples and dicts of these, and names of functions."""
    if isinstance(node, (ast.Tuple, ast.List)):
        return all(is_plain(part) and not isinstance(part, (ast.List, ast.Dict)) for part in node.elts)
    if isinstance(node, ast.Dict):
        parts = node.keys + node.values
        return all(part is not None and is_plain(part) and not isinstance(part, (ast.List, ast.Dict)) for part in parts)
    if isinstance(node, ast.Constant):
        return node.value is None or isinstance(node.value, (int, str))
    return isinstance(node, ast.Name)


def bound_names(node):
    """The parameters and locals of a def."""
    parts = list(ast.walk(node))
    names = {part.arg for part in parts if isinstance(part, ast.arg)}
    return names | {part.id for part in parts if isinstance(part, ast.Name) and isinstance(part.ctx, ast.Store)}


class File:
    """One file of the package, with the faults that are found in it."""

    def __init__(self, name, source):
        self.name = name
        self.source = source
        self.tree = ast.parse(source)
        self.faults = []
        self.imports = {}
        self.tops = {}
        self.parents = {child: node for node in ast.walk(self.tree) for child in ast.iter_child_nodes(node)}

    def fault(self, rule, node, words):
        line = node if isinstance(node, int) else getattr(node, "lineno", 0)
        self.faults.append(f"{rule} {self.name}:{line} {words}")

    def check(self):
        self.check_text()
        self.check_top()
        for node in ast.walk(self.tree):
            self.check_node(node)
        for node in self.tree.body:
            if isinstance(node, ast.FunctionDef):
                self.check_def(node)
            if isinstance(node, ast.ClassDef):
                self.check_class(node)
        return self.faults

    def check_text(self):
        lines = self.source.split("\n")
        if len(lines) - 1 > 399:
            self.fault("L10", len(lines), "more than 399 lines")
        stem = self.name.removesuffix(".py")
        is_plain_name = re.fullmatch(r"[a-z][a-z0-9_]*|__init__|__main__", stem)
        if not is_plain_name or NOT_FILES.fullmatch(stem) or stem in BUILT_IN:
            self.fault("L14", 0, "the file's name")
        for number, line in enumerate(lines, 1):
            if len(line) > 120:
                self.fault("L10", number, "more than 120 signs")
            if not re.fullmatch(r"[ -~]*", line):
                self.fault("L14", number, "a sign that is not from blank to ~")
            if NOT_WORDS.search(line):
                self.fault("L17", number, "a word that may not stand here")

    def check_top(self):
        if ast.get_docstring(self.tree) is None:
            self.fault("L3", 1, "no docstring")
        for node in self.tree.body[1:]:
            names = []
            if isinstance(node, ast.ImportFrom):
                names = [alias.name for alias in node.names]
                if node.level or not re.fullmatch(r"interlaced\.[a-z_]+", node.module) or "*" in names:
                    self.fault("L2", node, "an import from elsewhere")
                if any(alias.asname for alias in node.names):
                    self.fault("L16", node, "an import under another name")
                self.imports.update({name: node.module for name in names})
            elif isinstance(node, (ast.FunctionDef, ast.ClassDef)):
                names = [node.name]
            elif isinstance(node, ast.Assign) and isinstance(node.targets[0], ast.Name) and is_plain(node.value):
                names = [node.targets[0].id]
            else:
                self.fault("L3", node, "not for the top of a file")
            for name in names:
                if name in self.tops:
                    self.fault("L15", node, f"{name} is bound twice")
                if name in BUILT_IN:
                    self.fault("L8", node, f"{name} is Python's own")
                self.tops[name] = node

    def check_node(self, node):
        if isinstance(node, ast.stmt) and not isinstance(
                node, STATEMENTS + (ast.FunctionDef, ast.ClassDef, ast.ImportFrom)):
            self.fault("L6", node, type(node).__name__)
        if isinstance(node, ast.expr) and not isinstance(node, EXPRESSIONS):
            self.fault("L7", node, type(node).__name__)
        if isinstance(node, ast.Assign) and len(node.targets) > 1:
            self.fault("L6", node, "more than one target")
        if isinstance(node, (ast.For, ast.While)) and node.orelse:
            self.fault("L6", node, "an else behind a loop")
        if isinstance(node, ast.Expr) and not isinstance(node.value, (ast.Call, ast.Constant)):
            self.fault("L6", node, "a value by itself")
        if isinstance(node, (ast.Name, ast.Attribute)):
            name = node.id if isinstance(node, ast.Name) else node.attr
            if name in NOT_NAMES or name.startswith("_"):
                self.fault("L17" if name in NOT_NAMES else "L12", node, name)
        if isinstance(node, ast.ListComp) and (len(node.generators) > 1 or len(node.generators[0].ifs) > 1):
            self.fault("L7", node, "a comprehension with more than one for or if")
        if isinstance(node, ast.Compare) and any(isinstance(sign, (ast.Is, ast.IsNot)) for sign in node.ops):
            if not all(isinstance(side, ast.Constant) and not isinstance(side.value, int) or
                       isinstance(side, ast.Constant) and isinstance(side.value, bool) for side in node.comparators):
                self.fault("L20", node, "is beside another value")
        self.check_value(node)
        if isinstance(node, ast.Call):
            self.check_call(node)
        if isinstance(node, ast.For):
            self.check_walk(node)

    def check_value(self, node):
        if isinstance(node, ast.Constant):
            if isinstance(node.value, (float, complex, bytes)) or node.value is ...:
                self.fault("L7", node, "not a plain value")
            if isinstance(node.value, str) and "%" in node.value:
                self.fault("L27", node, "a text with a percent sign")
        if isinstance(node, (ast.BinOp, ast.AugAssign)):
            if isinstance(node.op, (ast.Div, ast.MatMult)):
                self.fault("L7", node, "/ or @")
            power = node.right if isinstance(node, ast.BinOp) else node.value
            if isinstance(node.op, ast.Pow) and not (isinstance(power, ast.Constant) and 0 <= power.value <= 64):
                self.fault("L27", node, "an exponent that is not written out")
        if isinstance(node, ast.FormattedValue):
            if not isinstance(node.value, ast.Name) or node.format_spec or node.conversion not in (-1, ord("r")):
                self.fault("L7", node, "an f-string with more than a name")

    def check_call(self, node):
        parent = self.parents[node]
        starred = any(isinstance(argument, ast.Starred) for argument in node.args)
        if starred or any(keyword.arg is None for keyword in node.keywords):
            self.fault("L7", node, "a star")
        if isinstance(node.func, ast.Name) and node.func.id in BUILT_IN:
            if not {keyword.arg for keyword in node.keywords} <= KEYWORDS.get(node.func.id, set()):
                self.fault("L22", node, "a keyword")
        is_walked = isinstance(node.func, ast.Name) and node.func.id in WALKED
        is_walked |= isinstance(node.func, ast.Attribute) and node.func.attr in ("items", "keys", "values")
        if is_walked:
            behind_in = isinstance(parent, (ast.For, ast.comprehension)) and parent.iter is node
            first = isinstance(parent, ast.Call) and isinstance(parent.func, ast.Name) and node in parent.args
            first = first and (parent.func.id in WALKERS or parent.func.id in ("min", "max") and len(parent.args) == 1)
            if not behind_in and not first:
                self.fault("L23", node, "kept instead of walked")

    def check_walk(self, node):
        walked = {part.id for part in ast.walk(node.iter) if isinstance(part, ast.Name)}
        for part in [inner for statement in node.body for inner in ast.walk(statement)]:
            if isinstance(part, ast.Attribute) and part.attr in CHANGES:
                if isinstance(part.value, ast.Name) and part.value.id in walked:
                    self.fault("L23", part, "what is walked is changed")

    def check_def(self, node, own=""):
        arguments = node.args
        if arguments.vararg or arguments.kwarg or arguments.kwonlyargs or arguments.posonlyargs:
            self.fault("L4", node, "parameters that are not plain")
        if node.decorator_list:
            self.fault("L4", node, "a decorator")
        if not all(isinstance(default, ast.Constant) for default in arguments.defaults):
            self.fault("L4", node, "a default that is not plain")
        if node.returns or any(part.annotation for part in ast.walk(node) if isinstance(part, ast.arg)):
            self.fault("L21", node, "an annotation")
        if node.end_lineno - node.lineno + 1 > 40:
            self.fault("L10", node, "more than 40 lines")
        if any(isinstance(part, (ast.FunctionDef, ast.ClassDef)) for part in ast.walk(node) if part is not node):
            self.fault("L4", node, "a def within a def (left out in this project)")
        local = bound_names(node)
        for name in local:
            if name in self.imports or name in BUILT_IN or isinstance(self.tops.get(name), ast.ClassDef):
                self.fault("L15", node, f"a local that is called {name}")
            if name.startswith("_") or not name.isascii():
                self.fault("L12", node, name)
        self.check_names(node, local)

    def check_names(self, node, local):
        called = {part.func for part in ast.walk(node) if isinstance(part, ast.Call)}
        for part in ast.walk(node):
            if not isinstance(part, ast.Name) or part.id in local:
                continue
            if part.id not in self.tops and part.id not in FUNCTIONS | ERRORS:
                self.fault("L8", part, f"{part.id} is not known")
            is_class = isinstance(self.tops.get(part.id), ast.ClassDef)
            if (part.id in FUNCTIONS or is_class) and part not in called:
                self.fault("L22" if not is_class else "L18", part, f"{part.id} is not called")

    def check_class(self, node):
        if node.decorator_list or node.keywords or len(node.bases) > 1:
            self.fault("L5", node, "not a plain class")
        names = []
        for part in node.body:
            if isinstance(part, ast.FunctionDef):
                names.append(part.name)
                self.check_def(part)
            elif not (isinstance(part, ast.Expr) and isinstance(part.value, ast.Constant)):
                self.fault("L5", part, "a value in a class body")
        if len(names) != len(set(names)):
            self.fault("L18", node, "a method that stands twice")
        for part in node.body:
            if isinstance(part, ast.FunctionDef) and part.name == "__init__":
                if any(isinstance(inner, ast.Return) and inner.value for inner in ast.walk(part)):
                    self.fault("L28", part, "__init__ gives something back")

    def methods(self):
        return {
            part.name for node in self.tree.body if isinstance(node, ast.ClassDef)
            for part in node.body if isinstance(part, ast.FunctionDef) and part.name != "__init__"}

    def values(self):
        """The names under which objects keep values."""
        return {
            node.attr for node in ast.walk(self.tree)
            if isinstance(node, ast.Attribute) and isinstance(node.ctx, ast.Store)}


def check_between(files):
    """Faults that show only when all files are looked at."""
    faults = []
    by_module = {"interlaced." + file.name.removesuffix(".py"): file for file in files}
    methods = {name for file in files for name in file.methods()}
    values = {name for file in files for name in file.values()}
    for name in sorted(methods & values):
        faults.append(f"L18 {name} is a method and a value")
    for name in sorted((methods | values) & TAKEN):
        faults.append(f"L26 {name} is a name of Python's own values")
    for file in files:
        for name, module in file.imports.items():
            home = by_module.get(module)
            if home is None or name not in home.tops or name in home.imports:
                faults.append(f"L16 {file.name}: {name} is not defined in {module}")
            if "interlaced." + file.name.removesuffix(".py") in reached(by_module, module):
                faults.append(f"L16 {file.name} and {module} draw from one another")
        for node in ast.walk(file.tree):
            if isinstance(node, ast.Attribute) and isinstance(node.ctx, ast.Load):
                is_called = isinstance(file.parents[node], ast.Call) and file.parents[node].func is node
                if node.attr not in (methods | METHODS if is_called else values):
                    faults.append(f"L25 {file.name}:{node.lineno} {node.attr}")
    return faults


def reached(by_module, module):
    """The modules from which one draws, in however many steps."""
    found = set()
    pending = [module]
    while pending:
        current = pending.pop()
        if current not in found and current in by_module:
            found.add(current)
            pending += by_module[current].imports.values()
    return found


def faults_in(sources):
    """All faults of a package that is given as a dict of file names and texts."""
    files = [File(name, source) for name, source in sources.items()]
    return [fault for file in files for fault in file.check()] + check_between(files)

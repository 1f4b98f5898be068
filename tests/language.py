"""Holds the package's files against ../shared/LANGUAGE.md, rule by rule.

Where a rule leaves a form free but advises against it ("best none"), or draws its line by what
a program means, the check takes the narrower side: no annotations, no recursion, no two-underscore
method but __init__, no handler of ValueError, LookupError or IndexError, no use of a taken error.
"""

import ast
import builtins
import io
import re
import tokenize

PACKAGE = "housenumbers"
FUNCTIONS = (
    "len range enumerate zip min max sum abs sorted reversed int str bool list tuple dict set frozenset isinstance"
    " ord repr any all divmod"
).split()
ERRORS = (
    "Exception ValueError TypeError KeyError IndexError LookupError ZeroDivisionError ArithmeticError OverflowError"
    " RuntimeError NotImplementedError AttributeError StopIteration"
).split()
PYTHONS_OWN = frozenset(dir(builtins))
METHODS = (
    "append clear copy count endswith extend find get index insert isalnum isalpha isdigit islower isspace isupper"
    " items join keys ljust lower lstrip partition pop remove replace reverse rfind rjust rpartition rsplit rstrip"
    " setdefault split splitlines startswith strip update upper values zfill bit_length"
).split()
CHANGING = "append clear extend insert pop remove reverse setdefault update".split()
VALUES_FREE = "count index title find get join lower upper split strip copy add".split()
VALUES_OUT = "args encode format sort".split()
KEYWORDS = {
    "sorted": ("key", "reverse"), "min": ("key", "default"), "max": ("key", "default"), "sum": ("start",),
    "enumerate": ("start",), "zip": ("strict",),
}
KEYS = "len int str abs sum min max tuple".split()
WALKS = "zip enumerate reversed range".split()
WALKERS = "list tuple dict sorted sum any all enumerate zip".split()
NOWHERE = "register mro elements open input version_info with_traceback add_note".split()
NOT_AS_NAMES = (
    "attrgetter breakpoint builtins compile copyright credits delattr dir eval exec exit gc getattr globals hasattr"
    " help id importlib license locals methodcaller os quit setattr super type vars"
).split()
WORDS_OUT = (
    "type typing typing_extensions enum Enum IntEnum StrEnum Flag IntFlag Generic Protocol ABC ABCMeta namedtuple"
    " NamedTuple TypedDict TYPE_CHECKING abstractmethod"
).split()
PARTS_OUT = "dataclass overload contextmanager".split()
FRAMES = re.compile(r"(f|tb|co|gi|cr|ag)_[a-z]+")
FILES_OUT = "test tests testing site conftest sitecustomize usercustomize".split() + WORDS_OUT
TWO_UNDERSCORES = "__init__ __eq__ __repr__ __str__ __len__ __all__ __version__ __name__".split()
STATEMENTS = (
    ast.FunctionDef, ast.ClassDef, ast.Assign, ast.AugAssign, ast.AnnAssign, ast.If, ast.While, ast.For, ast.Return,
    ast.Break, ast.Continue, ast.Pass, ast.Raise, ast.Try, ast.Expr, ast.Import, ast.ImportFrom,
)
EXPRESSIONS = (
    ast.Constant, ast.List, ast.Tuple, ast.Dict, ast.Set, ast.BinOp, ast.UnaryOp, ast.Compare, ast.BoolOp, ast.IfExp,
    ast.Call, ast.Attribute, ast.Subscript, ast.Slice, ast.ListComp, ast.JoinedStr, ast.FormattedValue, ast.Lambda,
    ast.Name,
)
SCOPES = (ast.FunctionDef, ast.Lambda)


class Module:
    """One file: its text, its tree with each node's parent, and the names bound at its top."""

    def __init__(self, path, text):
        self.path = path
        self.name = path[:-len(".py")].replace("/", ".")
        if self.name.endswith(".__init__"):
            self.name = self.name[:-len(".__init__")]
        self.text = text
        self.tree = ast.parse(text)
        self.is_main = path.endswith("/__main__.py")
        self.nodes = list(ast.walk(self.tree))
        for node in self.nodes:
            for child in ast.iter_child_nodes(node):
                child.parent = node
        self.tree.parent = None
        self.functions = [node for node in self.nodes if isinstance(node, ast.FunctionDef)]
        self.classes = {node.name: node for node in self.tree.body if isinstance(node, ast.ClassDef)}
        self.imports = {}
        for node in self.tree.body:
            if isinstance(node, ast.ImportFrom):
                for alias in node.names:
                    self.imports[alias.asname or alias.name] = (node.module, alias.name)
        self.values = {}
        for node in self.tree.body:
            if isinstance(node, ast.Assign) and isinstance(node.targets[0], ast.Name):
                self.values[node.targets[0].id] = node.value
        self.defs = {node.name: node for node in self.tree.body if isinstance(node, ast.FunctionDef)}
        self.top = set(self.imports) | set(self.classes) | set(self.defs) | set(self.values)

    def of(self, *kinds):
        return [node for node in self.nodes if isinstance(node, kinds)]


class Package:
    """All files, and what is to be known of all of them together."""

    def __init__(self, modules):
        self.modules = {module.name: module for module in modules}
        self.methods = {}
        self.values = {}
        self.classes = {}
        for module in modules:
            self.classes.update(module.classes)
            for one in module.classes.values():
                for node in one.body:
                    if isinstance(node, ast.FunctionDef):
                        self.methods[node.name] = node
            for node in module.of(ast.Attribute):
                if isinstance(node.ctx, ast.Store):
                    self.values[node.attr] = node


def check(files):
    """What breaks a rule in these files (path: bytes), as (rule, path, line, what)."""
    found = list(check_files(files))
    modules = []
    for path, content in sorted(files.items()):
        try:
            modules.append(Module(path, content.decode("utf-8")))
        except (SyntaxError, UnicodeDecodeError, ValueError):
            found.append(("L1", path, 1, "not a file of Python in UTF-8"))
    package = Package(modules)
    for module in modules:
        for rule in RULES:
            for node, what in rule(module, package):
                name = rule.__name__[len("rule_"):].upper().split("_")[0]
                found.append((name, module.path, getattr(node, "lineno", 1), what))
    return found


def check_files(files):
    """L1, L10, L14, L17: what is seen without reading the code."""
    folders = {path.rsplit("/", 1)[0] for path in files}
    for folder in sorted(folders):
        if folder + "/__init__.py" not in files:
            yield "L14", folder, 1, "no __init__.py"
    for path, content in sorted(files.items()):
        parts = path.split("/")
        stem = parts[-1][:-len(".py")]
        if not parts[-1].endswith(".py") or not all(re.fullmatch(r"[A-Za-z0-9_]+", p) for p in parts[:-1] + [stem]):
            yield "L1", path, 1, "not a .py file of a plain name"
        if parts[0] != PACKAGE:
            yield "L14", path, 1, "not in the package"
        if path != path.lower():
            yield "L14", path, 1, "not in lower case"
        if stem == "__main__" and len(parts) != 2:
            yield "L14", path, 1, "__main__.py not at the top"
        for part in parts[1:-1] + [stem]:
            if part in FILES_OUT or part.startswith("test_") or part in PYTHONS_OWN:
                yield "L14", path, 1, "a name that no file may have"
        yield from check_text(path, content.decode("utf-8", "replace"))


def check_text(path, text):
    rows = text.split("\n")
    if len(rows) - (rows[-1] == "") > 400:
        yield "L10", path, 401, "more than 400 lines"
    for line, row in enumerate(rows, 1):
        if len(row) > 120:
            yield "L10", path, line, "more than 120 characters"
        if "\t" in row:
            yield "L10", path, line, "a tab"
        if re.search(r"[^ -~\t]", row):
            yield "L14", path, line, "a sign that is none from the blank to ~"
        for word in re.findall(r"[A-Za-z0-9_]+", row):
            if word in WORDS_OUT or any(part in word for part in PARTS_OUT):
                yield "L17", path, line, f"the word {word}"


def rule_l2(module, package):
    for node in module.of(ast.Import, ast.ImportFrom):
        if node.parent is not module.tree:
            yield node, "an import that is not at the top"
        elif isinstance(node, ast.Import):
            if not module.is_main or [(alias.name, alias.asname) for alias in node.names] != [("sys", None)]:
                yield node, "an import of something else than the package's own"
        elif node.module == "__future__":
            if [alias.name for alias in node.names] != ["annotations"]:
                yield node, "something else than annotations from the future"
        elif node.level or (node.module or "").split(".")[0] != PACKAGE:
            yield node, "not the package's own by its full name"
        elif node.module.endswith("__main__") or any(alias.name in ("*", "__main__") for alias in node.names):
            yield node, "a star, or __main__"
    seen_other = False
    for node in module.tree.body[1:] if ast.get_docstring(module.tree) is not None else module.tree.body:
        if isinstance(node, (ast.Import, ast.ImportFrom)) and seen_other:
            yield node, "an import behind other code"
        seen_other = seen_other or not isinstance(node, (ast.Import, ast.ImportFrom))


def is_plain(value, known=()):
    if isinstance(value, ast.Constant):
        return value.value is None or isinstance(value.value, (bool, int, str))
    if isinstance(value, ast.UnaryOp) and isinstance(value.op, ast.USub):
        return isinstance(value.operand, ast.Constant) and type(value.operand.value) is int
    if isinstance(value, (ast.List, ast.Tuple)):
        return all(is_plain(one, known) for one in value.elts)
    if isinstance(value, ast.Dict):
        return all(one is not None and is_plain(one, known) for one in value.keys + value.values)
    return isinstance(value, ast.Name) and value.id in known


def rule_l3(module, package):
    known = set()
    for place, node in enumerate(module.tree.body):
        if isinstance(node, ast.FunctionDef):
            known.add(node.name)
        elif isinstance(node, ast.Assign):
            if isinstance(node.value, ast.Name) or not is_plain(node.value, known):
                yield node, "not a plain value"
            if not all(isinstance(target, ast.Name) for target in node.targets):
                yield node, "not a name that is given a value"
        elif isinstance(node, ast.If) and module.is_main:
            if node is not module.tree.body[-1] or ast.unparse(node.test) != "__name__ == '__main__'":
                yield node, "something done elsewhere than in the last row"
        elif isinstance(node, ast.Expr):
            if place != 0 or not is_text(node.value):
                yield node, "something done at the top"
        elif not isinstance(node, (ast.Import, ast.ImportFrom, ast.ClassDef)):
            yield node, "not for the top of a module"


def is_text(node):
    return isinstance(node, ast.Constant) and isinstance(node.value, str)


def rule_l4(module, package):
    for node in module.of(ast.FunctionDef, ast.Lambda):
        given = node.args
        if given.vararg or given.kwarg or given.kwonlyargs or given.posonlyargs:
            yield node, "not plain parameters"
        if not all(is_plain(value) for value in given.defaults):
            yield node, "a default that is no plain value"
        if any(isinstance(value, (ast.List, ast.Dict)) for value in given.defaults):
            yield node, "a default that could be changed"
        if getattr(node, "decorator_list", []):
            yield node, "a decorator"


def rule_l5(module, package):
    for node in module.of(ast.ClassDef):
        if node.decorator_list or node.keywords or len(node.bases) > 1:
            yield node, "not a plain class"
        for base in node.bases:
            if not isinstance(base, ast.Name) or base.id not in ERRORS + list(package.classes):
                yield node, "a base that is neither of the package nor an error"
        for place, part in enumerate(node.body):
            text = place == 0 and isinstance(part, ast.Expr) and is_text(part.value)
            if not text and not isinstance(part, (ast.FunctionDef, ast.Pass)):
                yield part, "a value in a class"
            if isinstance(part, ast.FunctionDef) and part.name.startswith("__") and part.name not in TWO_UNDERSCORES[:5]:
                yield part, "a method with two underscores"


def rule_l6(module, package):
    for node in module.of(ast.stmt):
        if not isinstance(node, STATEMENTS):
            yield node, "a statement that is not used"
        if isinstance(node, ast.Assign) and len(node.targets) != 1:
            yield node, "several targets"
        if isinstance(node, (ast.For, ast.While)) and node.orelse:
            yield node, "an else behind a loop"
        if isinstance(node, ast.Try):
            if node.finalbody or not node.handlers or any(handler.type is None for handler in node.handlers):
                yield node, "a finally, or an except without a name"
        if isinstance(node, ast.Expr) and not isinstance(node.value, ast.Call):
            body = getattr(node.parent, "body", [])
            if not is_text(node.value) or isinstance(node.parent, (ast.If, ast.For, ast.While)) or body[:1] != [node]:
                yield node, "not a call by itself"


def rule_l7(module, package):
    for node in module.of(ast.expr):
        if not isinstance(node, EXPRESSIONS):
            yield node, "an expression that is not used"
        if isinstance(node, ast.Constant) and not (node.value is None or isinstance(node.value, (bool, int, str))):
            yield node, "a float, bytes or the like"
        if isinstance(node, ast.BinOp) and isinstance(node.op, (ast.Div, ast.MatMult)):
            yield node, "a division or matrices"
        if isinstance(node, ast.ListComp):
            if len(node.generators) != 1 or len(node.generators[0].ifs) > 1 or node.generators[0].is_async:
                yield node, "more than one for and one if"
        if isinstance(node, ast.FormattedValue):
            if not isinstance(node.value, ast.Name) or node.conversion not in (-1, ord("r")) or node.format_spec:
                yield node, "not a plain name in braces"
        if isinstance(node, ast.Dict) and None in node.keys:
            yield node, "two stars"
        if isinstance(node, (ast.Set, ast.Call)) and is_set(node) and not scopes_of(node):
            yield node, "a set at the top"
    for node in module.of(ast.AugAssign):
        if isinstance(node.op, (ast.Div, ast.MatMult)):
            yield node, "a division or matrices"
    for node in module.of(ast.keyword):
        if node.arg is None:
            yield node.value, "two stars"


def is_set(node):
    if isinstance(node, ast.Call):
        return isinstance(node.func, ast.Name) and node.func.id in ("set", "frozenset")
    return isinstance(node, ast.Set)


def scopes_of(node):
    """The functions around a node, the nearest first."""
    found = []
    while node.parent is not None:
        node = node.parent
        if isinstance(node, SCOPES):
            found.append(node)
    return found


def bound_in(scope):
    """The names that a function binds: parameters, targets, inner functions, taken errors."""
    given = scope.args
    names = {one.arg for one in given.args + given.posonlyargs + given.kwonlyargs}
    for node in ast.walk(scope):
        if isinstance(node, ast.Name) and not isinstance(node.ctx, ast.Load):
            names.add(node.id)
        if isinstance(node, ast.FunctionDef) and node is not scope:
            names.add(node.name)
        if isinstance(node, ast.ExceptHandler) and node.name:
            names.add(node.name)
        if isinstance(node, ast.arg):
            names.add(node.arg)
    return names


def every_name(module):
    """Each name that is written in the code, with its node."""
    for node in module.nodes:
        if isinstance(node, ast.Name):
            yield node, node.id
        if isinstance(node, ast.Attribute):
            yield node, node.attr
        if isinstance(node, (ast.FunctionDef, ast.ClassDef)):
            yield node, node.name
        if isinstance(node, ast.arg):
            yield node, node.arg
        if isinstance(node, ast.keyword) and node.arg:
            yield node.value, node.arg
        if isinstance(node, ast.ExceptHandler) and node.name:
            yield node, node.name
        if isinstance(node, (ast.Import, ast.ImportFrom)) and getattr(node, "module", "") != "__future__":
            for alias in node.names:
                yield node, alias.asname or alias.name


def bindings(module):
    """Each place where a name is bound, but attributes."""
    for node in module.nodes:
        if isinstance(node, ast.Name) and not isinstance(node.ctx, ast.Load):
            yield node, node.id
        if isinstance(node, ast.arg):
            yield node, node.arg
        if isinstance(node, ast.ExceptHandler) and node.name:
            yield node, node.name
        if isinstance(node, (ast.FunctionDef, ast.ClassDef)) and not isinstance(node.parent, ast.ClassDef):
            yield node, node.name


def rule_l8(module, package):
    allowed = module.top | set(FUNCTIONS) | set(ERRORS)
    if module.is_main:
        allowed |= {"print", "sys", "__name__"}
    for node in module.of(ast.Name):
        if isinstance(node.ctx, ast.Load) and node.id not in allowed:
            if not any(node.id in bound_in(scope) for scope in scopes_of(node)):
                yield node, f"the name {node.id}"
    for node, name in bindings(module):
        if name in FUNCTIONS + ERRORS:
            yield node, f"another meaning for {name}"
    for node, name in every_name(module):
        if name.startswith("__") and name not in TWO_UNDERSCORES:
            yield node, f"the name {name}"
    for node in module.of(ast.Attribute):
        if node.attr in ("format", "format_map", "mro"):
            yield node, f"the attribute {node.attr}"


def rule_l9(module, package):
    for node in module.of(ast.Name):
        if node.id in ("print", "input", "open", "sys") and not module.is_main:
            yield node, "input or output"


def rule_l10(module, package):
    for node in module.functions:
        if node.end_lineno - node.lineno + 1 > 40:
            yield node, "more than 40 lines"


def rule_l11(module, package):
    for node in module.of(ast.ExceptHandler):
        for inner in ast.walk(node):
            if isinstance(inner, ast.Name) and node.name and inner.id == node.name:
                if not (isinstance(inner.parent, ast.Raise) and inner.parent.cause is inner):
                    yield inner, "the words of an error may be used"
    for node in module.functions:
        reached = {}
        waiting = [node]
        while waiting:
            for call in called_by(waiting.pop(), package):
                if call is node:
                    yield node, "a recursion"
                if id(call) not in reached:
                    reached[id(call)] = call
                    waiting.append(call)


def called_by(function, package):
    """The functions of the package that a function calls by name, and own methods by theirs."""
    for node in ast.walk(function):
        if isinstance(node, ast.Call) and isinstance(node.func, ast.Name):
            for module in package.modules.values():
                yield from [one for one in module.functions if one.name == node.func.id]
        if isinstance(node, ast.Call) and isinstance(node.func, ast.Attribute) and node.func.attr in package.methods:
            yield package.methods[node.func.attr]


def rule_l12(module, package):
    for node, name in every_name(module):
        if not re.fullmatch(r"[A-Za-z][A-Za-z0-9_]*", name) and name not in TWO_UNDERSCORES:
            yield node, f"the name {name}"


def rule_l13(module, package):
    for node in module.of(ast.Set):
        numbers = [one for one in node.elts if isinstance(one, ast.Constant) and type(one.value) is int]
        if len(numbers) >= 3 and not (isinstance(node.parent, ast.Compare) and is_asked_in(node)):
            yield node, "a set of numbers written out"
    lambdas = module.of(ast.Lambda)
    for place, node in enumerate(lambdas):
        for other in lambdas[:place]:
            if node.lineno == other.lineno and ast.dump(node.args) == ast.dump(other.args):
                yield node, "two lambdas alike on one line"


def is_asked_in(node):
    ops = node.parent.ops
    return len(ops) == 1 and isinstance(ops[0], (ast.In, ast.NotIn)) and node.parent.comparators[0] is node


def rule_l15(module, package):
    bound = []
    for node in module.tree.body:
        if isinstance(node, (ast.FunctionDef, ast.ClassDef)):
            bound.append((node, node.name))
        elif isinstance(node, (ast.Import, ast.ImportFrom)):
            bound.extend((node, alias.asname or alias.name) for alias in node.names)
        elif isinstance(node, ast.Assign):
            bound.extend((node, target.id) for target in node.targets if isinstance(target, ast.Name))
    for place, (node, name) in enumerate(bound):
        if name in [other for earlier, other in bound[:place]]:
            yield node, f"{name} is bound twice"
    for node in module.of(ast.ClassDef):
        if node.parent is not module.tree:
            yield node, "a class that is not at the top"
    for node, name in bindings(module):
        inner = node.parent is not module.tree and bool(scopes_of(node) or isinstance(node, ast.arg))
        if inner and (name in module.classes or name in module.imports):
            yield node, f"{name} is a class or an import"
        if name in PYTHONS_OWN and not (name.startswith("__") and name in TWO_UNDERSCORES):
            yield node, f"{name} is a name of Python's own"
    for value in module.values.values():
        if isinstance(value, (ast.List, ast.Dict)):
            for inner in ast.walk(value):
                if inner is not value and isinstance(inner, (ast.List, ast.Dict)):
                    yield inner, "a list or dict within one of the top"
    for node in module.of(ast.Name):
        if isinstance(node.ctx, ast.Load) and is_kept_at_top(node, module, package) and not is_only_read(node):
            yield node, f"{node.id} of the top is not only read"


def is_kept_at_top(node, module, package):
    """Whether a name stands for a list or dict of a file's top, of this file or the one it is drawn from."""
    if any(node.id in bound_in(scope) for scope in scopes_of(node)):
        return False
    value = module.values.get(node.id)
    if node.id in module.imports:
        source, name = module.imports[node.id]
        value = package.modules[source].values.get(name) if source in package.modules else None
    return isinstance(value, (ast.List, ast.Dict))


def is_only_read(node):
    parent = node.parent
    if isinstance(parent, ast.Subscript):
        return parent.value is not node or isinstance(parent.ctx, ast.Load)
    if isinstance(parent, (ast.For, ast.comprehension)):
        return parent.iter is node
    if isinstance(parent, ast.Call) and isinstance(parent.func, ast.Name) and node in parent.args:
        return parent.func.id in "len list dict tuple sorted enumerate zip sum min max any all reversed".split()
    if isinstance(parent, ast.Attribute) and isinstance(parent.parent, ast.Call) and parent.parent.func is parent:
        return parent.attr in "get index count items keys values copy".split()
    return isinstance(parent, ast.Compare)


def rule_l16(module, package):
    for node in module.of(ast.Import):
        if not module.is_main:
            yield node, "not from .. import"
    for node in module.of(ast.ImportFrom):
        source = package.modules.get(node.module)
        for alias in node.names:
            if node.module == "__future__":
                continue
            if source is None or alias.name not in source.top - set(source.imports):
                yield node, f"{alias.name} is not defined in {node.module}"
    seen = {}
    waiting = drawn_from(module)
    while waiting:
        name = waiting.pop()
        if name == module.name:
            yield module.tree, "draws from itself in some steps"
        if name not in seen and name in package.modules:
            seen[name] = True
            waiting.extend(drawn_from(package.modules[name]))
    if module.path.endswith("__init__.py"):
        for name in sorted(module.top):
            if module.name + "." + name in package.modules:
                yield module.tree, f"{name} is a file"


def drawn_from(module):
    """The modules that a file draws from, with the packages above them."""
    names = []
    for source, name in module.imports.values():
        parts = (source or "").split(".")
        names.extend(".".join(parts[:count]) for count in range(1, len(parts) + 1))
    # An __init__.py stands above its own files: that alone is no way round.
    drawn = [source for source, name in module.imports.values()]
    return [name for name in names if name != module.name or name in drawn]


def rule_l17(module, package):
    for node, name in every_name(module):
        if name in NOWHERE or FRAMES.fullmatch(name):
            yield node, f"the name {name}"
        if name in NOT_AS_NAMES and not isinstance(node, ast.Attribute):
            yield node, f"the name {name}"
        if name in ("sys", "__name__") and not module.is_main:
            yield node, f"the name {name}"


def rule_l18(module, package):
    for node in module.of(ast.Name):
        if node.id in package.classes and isinstance(node.ctx, ast.Load) and not is_class_used_so(node):
            yield node, f"the class {node.id} as a value"
    for node in module.of(ast.Attribute):
        if isinstance(node.ctx, ast.Store) and isinstance(node.value, ast.Name):
            if not any(node.value.id in bound_in(scope) for scope in scopes_of(node)):
                yield node, "a value given to a class or a name of the top"
    for one in module.classes.values():
        names = [part.name for part in one.body if isinstance(part, ast.FunctionDef)]
        if len(names) != len(set(names)):
            yield one, "a method that stands twice"
        for name in names:
            if name in package.values:
                yield one, f"{name} is a method and a value"
        if any(isinstance(base, ast.Name) and base.id in ("StopIteration", "AttributeError") for base in one.bases):
            yield one, "an error under one that is not used"


def is_class_used_so(node):
    parent = node.parent
    if isinstance(parent, ast.Call):
        named = isinstance(parent.func, ast.Name) and parent.func.id == "isinstance"
        return parent.func is node or (named and parent.args[1:] == [node])
    if isinstance(parent, ast.Attribute):
        return parent.attr == "__init__"
    if isinstance(parent, ast.Tuple):
        return isinstance(parent.parent, (ast.ExceptHandler, ast.Call)) and is_class_used_so_in(parent)
    return isinstance(parent, (ast.ClassDef, ast.ExceptHandler, ast.Raise))


def is_class_used_so_in(node):
    if isinstance(node.parent, ast.ExceptHandler):
        return True
    return isinstance(node.parent.func, ast.Name) and node.parent.func.id == "isinstance"


def rule_l19(module, package):
    for node in module.of(ast.ExceptHandler):
        taken = node.type.elts if isinstance(node.type, ast.Tuple) else [node.type]
        for one in taken:
            own = isinstance(one, ast.Name) and one.id in package.classes
            if not own and not (isinstance(one, ast.Name) and one.id in ("KeyError", "ZeroDivisionError", "StopIteration")):
                yield node, "an error that is not taken so"
    for node in module.of(ast.Raise):
        if not isinstance(node.exc, ast.Call) or not isinstance(node.exc.func, ast.Name):
            yield node, "an error that is not made on the spot"
        if node.cause is not None and not is_handlers_error(node):
            yield node, "from something else than the handler's error"


def is_handlers_error(node):
    if isinstance(node.cause, ast.Constant):
        return node.cause.value is None
    around = node.parent
    while around is not None and not isinstance(around, ast.ExceptHandler):
        around = around.parent
    return around is not None and isinstance(node.cause, ast.Name) and node.cause.id == around.name


def rule_l20(module, package):
    for node in module.of(ast.Compare):
        for op, other in zip(node.ops, node.comparators):
            if isinstance(op, (ast.Is, ast.IsNot)):
                sides = (node.left, other)
                if not any(isinstance(one, ast.Constant) and one.value in (None, True, False)
                           and not (type(one.value) is int) for one in sides):
                    yield node, "is beside something else than None, True, False"


def rule_l21(module, package):
    for node in module.of(ast.AnnAssign):
        yield node, "an annotation"
    for node in module.functions:
        if node.returns or any(one.annotation for one in node.args.args):
            yield node, "an annotation"


def rule_l22(module, package):
    for node in module.of(ast.Name):
        if node.id in FUNCTIONS and isinstance(node.ctx, ast.Load) and not is_own_called_so(node):
            yield node, f"{node.id} as a value"
    for node in module.of(ast.Call):
        name = node.func.id if isinstance(node.func, ast.Name) else None
        if name == "isinstance" and len(node.args) != 2:
            yield node, "isinstance of something else than two"
        method = isinstance(node.func, ast.Attribute) and node.func.attr in METHODS
        for keyword in node.keywords:
            if method or (name in FUNCTIONS + ERRORS and keyword.arg not in KEYWORDS.get(name, ())):
                yield node, f"the keyword {keyword.arg}"
            if keyword.arg in ("reverse", "strict") and name in KEYWORDS:
                if not isinstance(keyword.value, ast.Constant) or type(keyword.value.value) is not bool:
                    yield node, f"{keyword.arg} without a written True or False"


def is_own_called_so(node):
    parent = node.parent
    if isinstance(parent, ast.keyword):
        return parent.arg == "key" and node.id in KEYS
    if isinstance(parent, ast.Tuple) and isinstance(parent.parent, ast.Call):
        return is_second_of_isinstance(parent.parent, parent) and node.id in "int str bool list tuple dict".split()
    if not isinstance(parent, ast.Call):
        return False
    if is_second_of_isinstance(parent, node):
        return node.id in "int str bool list tuple dict".split()
    return parent.func is node


def is_second_of_isinstance(call, node):
    return isinstance(call.func, ast.Name) and call.func.id == "isinstance" and call.args[1:] == [node]


def is_walk(node):
    if isinstance(node.func, ast.Name):
        return node.func.id in WALKS
    return isinstance(node.func, ast.Attribute) and node.func.attr in ("items", "keys", "values")


def rule_l23(module, package):
    for node in module.of(ast.Call):
        if is_walk(node) and not is_walked_at_once(node):
            yield node, "not walked on the spot"
    for node in module.of(ast.For):
        walked = [ast.unparse(one) for one in walked_by(node.iter)]
        for part in node.body:
            for inner in ast.walk(part):
                if changed_by(inner) in walked:
                    yield inner, "what a loop walks is changed in it"


def is_walked_at_once(node):
    parent = node.parent
    if isinstance(parent, (ast.For, ast.comprehension)):
        return parent.iter is node
    if isinstance(parent, ast.Call) and isinstance(parent.func, ast.Name):
        if parent.func.id in ("min", "max"):
            return parent.args == [node] and not parent.keywords
        return parent.func.id in WALKERS and parent.args[:1] == [node]
    if isinstance(parent, ast.Call) and isinstance(parent.func, ast.Attribute):
        return parent.func.attr == "join" and is_text(parent.func.value)
    return False


def walked_by(node):
    """The values that a walk goes through, itself or by enumerate, zip, reversed, items."""
    if isinstance(node, ast.Call) and isinstance(node.func, ast.Name) and node.func.id in ("enumerate", "zip", "reversed"):
        return [inner for one in node.args for inner in walked_by(one)]
    if isinstance(node, ast.Call) and isinstance(node.func, ast.Attribute) and is_walk(node):
        return [node.func.value]
    return [node] if isinstance(node, (ast.Name, ast.Attribute, ast.Subscript)) else []


def changed_by(node):
    """What a node changes in place, as text, or None."""
    if isinstance(node, ast.Subscript) and not isinstance(node.ctx, ast.Load):
        return ast.unparse(node.value)
    if isinstance(node, ast.Call) and isinstance(node.func, ast.Attribute) and node.func.attr in CHANGING:
        return ast.unparse(node.func.value)
    if isinstance(node, ast.AugAssign):
        return ast.unparse(node.target)
    return None


def rule_l24(module, package):
    for node in module.of(ast.Set, ast.Call):
        if is_set(node) and not is_set_asked(node):
            yield node, "a set that is kept or walked"


def is_set_asked(node):
    parent = node.parent
    if isinstance(parent, ast.BinOp) and isinstance(parent.op, (ast.Sub, ast.BitAnd, ast.BitOr, ast.BitXor)):
        return is_set_asked(parent)
    if isinstance(parent, ast.Call) and isinstance(parent.func, ast.Name):
        return parent.func.id in ("sorted", "len") and not parent.keywords and parent.args == [node]
    if isinstance(parent, ast.Compare) and len(parent.ops) == 1:
        if isinstance(parent.ops[0], (ast.In, ast.NotIn)):
            return parent.comparators[0] is node
        other = parent.left if parent.comparators[0] is node else parent.comparators[0]
        return isinstance(parent.ops[0], (ast.Eq, ast.NotEq)) and (is_set(other) or isinstance(other, ast.BinOp))
    return False


def rule_l25(module, package):
    for node in module.of(ast.Attribute):
        called = isinstance(node.parent, ast.Call) and node.parent.func is node
        main = module.is_main and isinstance(node.value, ast.Name) and node.value.id == "sys"
        if main or node.attr == "stdin" or (module.is_main and ast.unparse(node).startswith("sys.")):
            continue
        if called and node.attr not in METHODS and node.attr not in package.methods and node.attr != "__init__":
            yield node, f"the method {node.attr}"
        if not called and isinstance(node.ctx, ast.Load):
            key = isinstance(node.parent, ast.keyword) and node.parent.arg == "key"
            if node.attr not in package.values and not (key and node.attr in package.methods):
                yield node, f"{node.attr} is not a value of the program's own"


def rule_l26(module, package):
    taken = {name for kind in (str, int, list, tuple, dict, set, frozenset, bytes, bytearray) for name in dir(kind)}
    for one in module.classes.values():
        for part in one.body:
            if isinstance(part, ast.FunctionDef) and part.name in taken:
                if part.name not in METHODS + ["add", "discard"] + TWO_UNDERSCORES:
                    yield part, f"a method called {part.name}"
    for node in module.of(ast.Attribute):
        if isinstance(node.ctx, ast.Store) and (node.attr in VALUES_OUT or node.attr in taken - set(VALUES_FREE)):
            yield node, f"a value called {node.attr}"


def rule_l27(module, package):
    for node in module.of(ast.BinOp, ast.AugAssign):
        if isinstance(node.op, ast.Pow):
            exponent = node.right if isinstance(node, ast.BinOp) else node.value
            if not isinstance(exponent, ast.Constant) or not 0 <= exponent.value <= 64:
                yield node, "an exponent that is not written, from 0 to 64"
    for node in module.of(ast.Constant):
        if isinstance(node.value, str) and "%" in node.value:
            yield node, "the sign for remainders within a text"
        if type(node.value) is int and abs(node.value) >= 10 ** 900:
            yield node, "a number of more than 900 digits"
    for node in module.of(ast.Name):
        if node.id == "chr":
            yield node, "chr"
    kinds = (tokenize.STRING, getattr(tokenize, "FSTRING_MIDDLE", tokenize.STRING))
    for token in tokenize.generate_tokens(io.StringIO(module.text).readline):
        if token.type in kinds and re.search(r"\\[^nt\\'\"]", token.string.replace("\\\\", "")):
            yield ast.Constant(value=None, lineno=token.start[0]), "an escape that is not used"


def rule_l28(module, package):
    for one in module.classes.values():
        for part in one.body:
            if isinstance(part, ast.FunctionDef) and part.name in ("__eq__", "__repr__", "__str__", "__len__"):
                yield part, "best not written"
            if isinstance(part, ast.FunctionDef) and part.name == "__init__":
                for inner in ast.walk(part):
                    if isinstance(inner, ast.Return) and inner.value is not None:
                        yield inner, "__init__ gives something back"


RULES = (
    rule_l2, rule_l3, rule_l4, rule_l5, rule_l6, rule_l7, rule_l8, rule_l9, rule_l10, rule_l11, rule_l12, rule_l13,
    rule_l15, rule_l16, rule_l17, rule_l18, rule_l19, rule_l20, rule_l21, rule_l22, rule_l23, rule_l24, rule_l25,
    rule_l26, rule_l27, rule_l28,
)

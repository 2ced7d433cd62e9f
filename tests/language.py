"""Whether the files of a package keep to LANGUAGE.md, as far as a test can tell.

A finding is a tuple (rule, file, line, what). What is checked here is narrower than
LANGUAGE.md in places: a construct that is allowed under long conditions (with, match,
yield, global, nonlocal, finally, :=, annotations ..) is a finding, as long as no file of
the package needs it. Who needs one reads its rule, and checks its conditions here.
"""

import ast
import builtins
import io
import re
import tokenize
import warnings

PACKAGE = "pulledonce"

LIBRARY = {
    "heapq": {"heappush", "heappop", "heapify", "heapreplace", "heappushpop"},
    "math": {"gcd", "lcm", "isqrt", "comb", "perm", "factorial"},
    "itertools": {"product", "combinations", "permutations", "chain", "pairwise"},
    "collections": {"deque"},
}
PYTHON_ERRORS = {
    "Exception", "ValueError", "TypeError", "KeyError", "IndexError", "LookupError", "ZeroDivisionError",
    "ArithmeticError", "OverflowError", "RuntimeError", "NotImplementedError",
}
CALLED_BUILTINS = {
    "len", "range", "enumerate", "zip", "min", "max", "sum", "abs", "sorted", "reversed", "int", "str", "bool", "list",
    "tuple", "dict", "set", "isinstance", "ord", "repr", "any", "all", "divmod",
}
KEYWORDS_OF_BUILTINS = {
    "sorted": {"key", "reverse"}, "min": {"key", "default"}, "max": {"key", "default"}, "sum": {"start"},
    "enumerate": {"start"}, "zip": {"strict"},
}
KINDS_OF_VALUES = {"int", "str", "bool", "bytes", "list", "tuple", "dict"}
ITERATED_AT_ONCE = {"zip", "enumerate", "reversed", "range"}
VIEWS = {"items", "keys", "values"}
ITERATES = {"list", "tuple", "dict", "sorted", "sum", "any", "all", "enumerate", "zip", "min", "max"}
METHODS = set(
    "append clear copy count endswith extend find get index insert isalnum isalpha isdigit islower isspace isupper "
    "items join keys ljust lower lstrip partition pop remove replace reverse rfind rjust rpartition rsplit rstrip "
    "setdefault split splitlines startswith strip update upper values zfill bit_length add discard "
    "removeprefix removesuffix isascii isdecimal popleft appendleft".split()
)
MODIFIERS = set(
    "append clear extend insert pop remove reverse setdefault update popleft appendleft add discard sort".split()
)
OWN_DUNDERS = {"__init__", "__eq__", "__repr__", "__str__", "__len__"}
NEVER_NAMES = {
    "register", "mro", "elements", "open", "input", "law", "version_info", "with_traceback", "add_note",
}
NOT_NAMES = {
    "attrgetter", "breakpoint", "builtins", "compile", "copyright", "credits", "delattr", "dir", "eval", "exec", "exit",
    "gc", "getattr", "globals", "hasattr", "help", "id", "importlib", "license", "locals", "methodcaller", "os", "quit",
    "setattr", "super", "type", "vars", "sys",
}
NEVER_WORDS = re.compile(
    r"\b(type|typing|typing_extensions|enum|Enum|IntEnum|StrEnum|Flag|IntFlag|Generic|Protocol|ABC|ABCMeta|namedtuple"
    r"|NamedTuple|TypedDict|TYPE_CHECKING|abstractmethod)\b|dataclass|overload|contextmanager"
)
FRAME_NAME = re.compile(r"^(f|tb|co|gi|cr|ag)_[a-z]+$")
BAD_START = re.compile(r"^(_wall|_pe_|_dcw_|_enum_|_cm_|_twin_re_|_lay_|_law_|_stub_|_sre|_WallAttr)")
BAD_NAME = re.compile(r"^(_cold|_tuplegetter|_outside|_record|_written_out|_member_names)[0-9_]*$")
PLAIN_NAME = re.compile(r"^(_|_?[A-Za-z][A-Za-z0-9_]*)$")
BAD_FILE = re.compile(r"^(law_.*|tests?|testing|test_.*|site|conftest|sitecustomize|usercustomize|heapq|math|itertools)$")
GOOD_ESCAPE = re.compile(r"\\[nt\\'\"]|\\\n")
NAMES_OF_VALUES = set()
for _kind in (str, int, list, tuple, dict, set, bytes, float):
    NAMES_OF_VALUES.update(dir(_kind))

FUNCTIONS = (ast.FunctionDef, ast.Lambda)
COMPREHENSIONS = (ast.ListComp, ast.SetComp, ast.DictComp, ast.GeneratorExp)
NOT_ALLOWED = {
    "L6": (ast.AsyncFunctionDef, ast.AsyncFor, ast.AsyncWith, ast.Await, ast.Global, ast.Nonlocal, ast.With, ast.Match,
           ast.TryStar),
    "L7": (ast.NamedExpr, ast.Div, ast.MatMult),
    "L21": (ast.AnnAssign,),
    "L23": (ast.Yield, ast.YieldFrom),
}


class File:
    """A file of the package, with the parent of each node of its tree."""

    def __init__(self, name, text):
        self.name = name
        self.text = text
        self.lines = text.split("\n")
        with warnings.catch_warnings():
            # check_numbers_and_strings tells of these.
            warnings.simplefilter("ignore")
            self.tree = ast.parse(text)
        self.parents = {}
        for node in ast.walk(self.tree):
            for child in ast.iter_child_nodes(node):
                self.parents[child] = node
        self.functions = {node.name: node for node in self.tree.body if isinstance(node, ast.FunctionDef)}
        self.classes = {node.name: node for node in self.tree.body if isinstance(node, ast.ClassDef)}
        self.imports = [node for node in ast.walk(self.tree) if isinstance(node, (ast.Import, ast.ImportFrom))]

    def nodes(self, *kinds):
        return [node for node in ast.walk(self.tree) if isinstance(node, kinds)]

    def imported(self):
        return {alias.asname or alias.name for node in self.imports for alias in node.names}

    def around(self, node, kinds):
        """The innermost node of some kinds around a node, or None."""
        while node in self.parents:
            node = self.parents[node]
            if isinstance(node, kinds):
                return node
        return None

    def docstrings(self):
        found = set()
        for node in self.nodes(ast.Module, ast.ClassDef, ast.FunctionDef):
            first = node.body[0] if node.body else None
            if isinstance(first, ast.Expr) and isinstance(first.value, ast.Constant) and isinstance(first.value.value, str):
                found.add(first.value)
        return found


class Package:
    """All files of a package, given as a dict of their names and texts."""

    def __init__(self, texts):
        self.files = {name: File(name, text) for name, text in texts.items()}
        self.classes = {}
        self.functions = {}
        for file in self.files.values():
            self.classes.update(file.classes)
            self.functions.update(file.functions)
        self.methods = [
            node for kind in self.classes.values() for node in kind.body if isinstance(node, ast.FunctionDef)
        ]
        self.method_names = {node.name for node in self.methods}
        self.properties = {
            node.name for node in self.methods if "property" in [ast.unparse(each) for each in node.decorator_list]
        }
        self.attributes = {
            node.attr for file in self.files.values() for node in file.nodes(ast.Attribute)
            if isinstance(node.ctx, ast.Store)
        }

    def is_error(self, name):
        if name in PYTHON_ERRORS:
            return True
        return name in self.classes and any(self.is_error(base.id) for base in self.classes[name].bases)

    def compares(self):
        return "__eq__" in self.method_names


def findings(texts):
    package = Package(texts)
    found = []
    for check in CHECKS:
        for file in package.files.values():
            for rule, at, what in check(package, file):
                line = at if isinstance(at, int) else getattr(at, "lineno", 1)
                found.append((rule, file.name, line, what))
    return sorted(set(found))


def call_name(node):
    return node.func.id if isinstance(node, ast.Call) and isinstance(node.func, ast.Name) else None


def check_files(package, file):
    stem = file.name[:-3]
    if not re.match(r"^([a-z][a-z0-9_]*|__init__|__main__)\.py$", file.name):
        yield "L1", 1, "name of a file"
    if BAD_FILE.match(stem) or stem in dir(builtins) or NEVER_WORDS.search(stem):
        yield "L14", 1, "name of a file"
    if "__init__.py" not in package.files:
        yield "L14", 1, "no __init__.py"
    for number, line in enumerate(file.lines, 1):
        if len(line) > 120 or "\t" in line:
            yield "L10", number, "long line or tab"
        if not all(" " <= sign <= "~" for sign in line):
            yield "L14", number, "character"
        if "_wall" in line or "_WallAttr" in line:
            yield "L12", number, "word"
    if len(file.lines) > 400 or (len(file.lines) == 400 and file.lines[-1]):
        yield "L10", 1, "long file"
    for node in file.nodes(ast.FunctionDef):
        first = min([node.lineno] + [each.lineno for each in node.decorator_list])
        if node.end_lineno - first + 1 > 40:
            yield "L10", node, "long function"


def check_imports(package, file):
    body = [node for node in file.tree.body if not isinstance(node, ast.Expr)]
    top = [node for at, node in enumerate(body) if all(isinstance(each, ast.ImportFrom) for each in body[:at + 1])]
    for node in file.imports:
        if node not in top:
            yield "L2", node, "import that is not at the top"
        if isinstance(node, ast.Import) or node.level or any(alias.asname for alias in node.names):
            yield "L16", node, "form of an import"
            continue
        names = {alias.name for alias in node.names}
        if node.module in LIBRARY:
            if not names <= LIBRARY[node.module]:
                yield "L2", node, "word of the library"
            continue
        start, _, stem = node.module.partition(".")
        source = package.files.get(stem + ".py")
        if start != PACKAGE or source is None or stem == "__main__":
            yield "L2", node, "import from outside"
        elif not names <= set(source.functions) | set(source.classes) | set(module_values(source)):
            yield "L16", node, "import from a file that does not define the name"
    if stem_of(file) in reached(package, stem_of(file)):
        yield "L16", 1, "files that import from each other"


def stem_of(file):
    return file.name[:-3]


def reached(package, stem):
    """All files that a file imports, and those that they import, and so on."""
    found, todo = set(), [stem]
    while todo:
        file = package.files.get(todo.pop() + ".py")
        for node in file.imports if file else []:
            module = getattr(node, "module", None) or ""
            if module.startswith(PACKAGE + ".") and module.partition(".")[2] not in found:
                found.add(module.partition(".")[2])
                todo.append(module.partition(".")[2])
    return found


def module_values(file):
    return {
        node.targets[0].id: node.value for node in file.tree.body
        if isinstance(node, ast.Assign) and len(node.targets) == 1 and isinstance(node.targets[0], ast.Name)
    }


def is_plain(node, names=()):
    if isinstance(node, ast.Constant):
        return node.value is None or isinstance(node.value, (bool, int, str, bytes))
    if isinstance(node, ast.UnaryOp):
        return isinstance(node.op, ast.USub) and is_plain(node.operand)
    if isinstance(node, (ast.List, ast.Tuple)):
        return all(is_plain(each, names) for each in node.elts)
    if isinstance(node, ast.Dict):
        return all(each is not None and is_plain(each, names) for each in node.keys + node.values)
    return isinstance(node, ast.Name) and node.id in names


def is_docstring(node):
    return isinstance(node, ast.Expr) and isinstance(node.value, ast.Constant) and isinstance(node.value.value, str)


def check_module_level(package, file):
    names = [name for node in file.imports for name in [alias.name for alias in node.names]]
    above = []
    for at, node in enumerate(file.tree.body):
        if isinstance(node, (ast.FunctionDef, ast.ClassDef)):
            names.append(node.name)
            above.append(node.name)
        elif isinstance(node, ast.Assign):
            if len(node.targets) != 1 or not isinstance(node.targets[0], ast.Name):
                yield "L3", node, "targets at module level"
                continue
            names.append(node.targets[0].id)
            if not is_plain(node.value, [name for name in above if name in file.functions]):
                yield "L3", node, "value at module level"
            inner = [each for each in ast.walk(node.value) if isinstance(each, (ast.List, ast.Dict))]
            if [each for each in inner if each is not node.value]:
                yield "L15", node, "list or dict within a value at module level"
        elif not isinstance(node, (ast.Import, ast.ImportFrom)) and not (at == 0 and is_docstring(node)):
            yield "L3", node, "statement at module level"
    for name in names:
        if names.count(name) > 1:
            yield "L15", 1, f"{name} is bound twice"
    for node in file.nodes(ast.ClassDef):
        if file.parents[node] is not file.tree:
            yield "L15", node, "class that is not at module level"


def check_module_values_unchanged(package, file):
    tables = [name for name, value in module_values(file).items() if isinstance(value, (ast.List, ast.Dict))]
    for node in file.nodes(ast.Name):
        parent = file.parents[node]
        if node.id not in tables or isinstance(node.ctx, ast.Store):
            continue
        read = isinstance(parent, ast.Subscript) and isinstance(parent.ctx, ast.Load) and parent.value is node
        read = read or isinstance(parent, (ast.Compare, ast.For, ast.comprehension))
        read = read or call_name(parent) in {"len", "list", "tuple", "dict", "sorted", "enumerate", "sum", "min", "max"}
        if isinstance(parent, ast.Attribute):
            read = parent.attr in ("get", "items", "keys", "values", "index", "count")
        if not read:
            yield "L15", node, f"{node.id} at module level is changed, kept or passed on"


def check_functions(package, file):
    for node in file.nodes(ast.FunctionDef):
        in_class = isinstance(file.parents[node], ast.ClassDef)
        for each in node.decorator_list:
            if not (in_class and ast.unparse(each) in ("property", "staticmethod", "classmethod")):
                yield "L4", each, "decorator"
        if node.returns is not None:
            yield "L21", node, "annotation"
        if not in_class and node.name.startswith("__"):
            yield "L28", node, "name of a function"
    for node in file.nodes(ast.arguments):
        if [each for each in node.defaults + node.kw_defaults if each is not None and not is_default(each)]:
            yield "L4", 1, "default value"
        if [each for each in node.args + node.kwonlyargs + node.posonlyargs if each.annotation is not None]:
            yield "L21", 1, "annotation"


def is_default(node):
    return is_plain(node) and not isinstance(node, (ast.List, ast.Dict))


def check_classes(package, file):
    above = set(file.imported())
    for node in file.tree.body:
        if not isinstance(node, ast.ClassDef):
            continue
        for base in node.bases:
            if not isinstance(base, ast.Name) or base.id not in above | PYTHON_ERRORS:
                yield "L5", node, "base class"
        if node.decorator_list or node.keywords:
            yield "L5", node, "decorator or keyword of a class"
        above.add(node.name)
        yield from check_class_body(package, node)


def check_class_body(package, node):
    names = []
    for at, each in enumerate(node.body):
        if isinstance(each, ast.FunctionDef):
            names.append(each.name)
            if each.name.startswith("__") and each.name not in OWN_DUNDERS:
                yield "L5", each, f"method {each.name}"
            elif each.name in NAMES_OF_VALUES and each.name not in OWN_DUNDERS:
                yield "L26", each, f"method {each.name}"
            if not each.args.args and not each.decorator_list:
                yield "L5", each, "method without its object"
            if each.decorator_list and package.is_error(node.name):
                yield "L5", each, "decorator in an error class"
        elif isinstance(each, ast.Assign) and is_default(each.value) and not package.is_error(node.name):
            names.append(ast.unparse(each.targets[0]))
        elif not (at == 0 and is_docstring(each)) and not isinstance(each, ast.Pass):
            yield "L5", each, "statement in a class"
    for name in names:
        if names.count(name) > 1:
            yield "L18", node, f"{name} is defined twice"
    for name in own_attributes(node):
        if name in names:
            yield "L18", node, f"{name} is a method and an attribute"
        if name in NAMES_OF_VALUES or name == "args":
            yield "L26", node, f"attribute {name}"


def own_attributes(kind):
    return {
        node.attr for node in ast.walk(kind)
        if isinstance(node, ast.Attribute) and isinstance(node.ctx, ast.Store) and isinstance(node.value, ast.Name)
        and node.value.id == "self"
    }


def check_methods(package, file):
    for node in file.nodes(ast.FunctionDef):
        if not isinstance(file.parents[node], ast.ClassDef):
            continue
        inner = list(ast.walk(node))
        returns = [each for each in inner if isinstance(each, ast.Return)]
        if node.name == "__init__" and [each for each in returns if each.value is not None]:
            yield "L28", node, "__init__ returns something"
        decorators = [ast.unparse(each) for each in node.decorator_list]
        if node.name in ("__eq__", "__repr__", "__str__", "__len__") or "property" in decorators:
            stored = [each for each in inner if isinstance(each, (ast.Attribute, ast.Subscript))
                      and not isinstance(each.ctx, ast.Load)]
            called = [each for each in inner if isinstance(each, ast.Call) and isinstance(each.func, ast.Attribute)
                      and each.func.attr in MODIFIERS]
            if stored or called or [each for each in inner if isinstance(each, ast.AugAssign)]:
                yield "L28", node, "a method that only tells changes something"


def check_allowed(package, file):
    for rule, kinds in NOT_ALLOWED.items():
        for node in file.nodes(*kinds):
            yield rule, getattr(node, "lineno", 1), type(node).__name__
    for node in file.nodes(ast.Constant):
        if isinstance(node.value, (float, complex)):
            yield "L7", node, "float"
        if isinstance(node.value, bytes):
            yield "L7", node, "bytes"
    for node in file.nodes(ast.Starred):
        if isinstance(file.parents[node], ast.Call):
            yield "L7", node, "call with a star"
    for node in file.nodes(*COMPREHENSIONS):
        if file.around(node, FUNCTIONS) is None:
            yield "L7", node, "comprehension outside of functions"
    for node in file.nodes(ast.GeneratorExp):
        parent = file.parents[node]
        allowed = {"list", "tuple", "dict"} if package.compares() else ITERATES - {"enumerate", "zip"}
        joined = isinstance(parent, ast.Call) and is_literal_join(parent.func)
        if call_name(parent) not in allowed and not joined:
            yield "L7", node, "generator expression"
    for node in file.nodes(ast.FormattedValue):
        if node.conversion == 97 or (node.format_spec and len(node.format_spec.values) != 1):
            yield "L7", node, "format"
    for node in file.nodes(ast.keyword):
        if node.arg is None:
            yield "L7", node.value, "call with two stars"


def is_literal_join(func):
    return isinstance(func, ast.Attribute) and func.attr == "join" and isinstance(func.value, ast.Constant)


def check_names(package, file):
    words = []
    for node in ast.walk(file.tree):
        if isinstance(node, ast.Name):
            words.append((node.id, node, not isinstance(node.ctx, ast.Load)))
        elif isinstance(node, ast.arg):
            words.append((node.arg, node, True))
        elif isinstance(node, (ast.FunctionDef, ast.ClassDef)):
            words.append((node.name, node, not isinstance(file.parents[node], ast.ClassDef)))
        elif isinstance(node, ast.Attribute):
            words.append((node.attr, node, False))
        elif isinstance(node, ast.keyword) and node.arg:
            words.append((node.arg, node.value, False))
        elif isinstance(node, ast.ExceptHandler) and node.name:
            words.append((node.name, node, True))
    for word, node, binds in words:
        dunder = word in OWN_DUNDERS and (isinstance(node, (ast.FunctionDef, ast.Attribute)))
        if not dunder and (not PLAIN_NAME.match(word) or BAD_START.match(word) or BAD_NAME.match(word)):
            yield "L12", node, f"name {word}"
        if word in NEVER_NAMES or FRAME_NAME.match(word):
            yield "L17", node, f"name {word}"
        if binds and (word in dir(builtins) or word in NOT_NAMES):
            yield "L15", node, f"name {word} of a builtin"
        if isinstance(node, ast.Name) and not binds and word == "_":
            yield "L12", node, "_ is read"
        local = isinstance(node, ast.arg) or (isinstance(node, ast.Name) and file.around(node, FUNCTIONS))
        if binds and local and word in set(file.classes) | file.imported():
            yield "L15", node, f"name {word} of a class or an import"
    for number, line in code_lines(file):
        if NEVER_WORDS.search(line):
            yield "L17", number, "word"


def code_lines(file):
    """The lines without comments and docstrings."""
    lines = list(file.lines)
    for node in file.docstrings():
        for number in range(node.lineno, node.end_lineno + 1):
            lines[number - 1] = ""
    for token in tokenize.generate_tokens(io.StringIO(file.text).readline):
        if token.type == tokenize.COMMENT:
            lines[token.start[0] - 1] = lines[token.start[0] - 1][:token.start[1]]
    return list(enumerate(lines, 1))


def check_builtins(package, file):
    for node in file.nodes(ast.Name):
        parent = file.parents[node]
        if node.id not in dir(builtins) or not isinstance(node.ctx, ast.Load):
            continue
        if node.id not in CALLED_BUILTINS | PYTHON_ERRORS | {"property", "staticmethod", "classmethod", "super"}:
            yield "L8", node, f"builtin {node.id}"
        called = isinstance(parent, ast.Call) and parent.func is node
        as_key = isinstance(parent, ast.keyword) and parent.arg == "key"
        if node.id in CALLED_BUILTINS and not called and not as_key and not in_isinstance(file, node):
            yield "L22", node, f"builtin {node.id} as a value"
    for node in file.nodes(ast.Call):
        name = call_name(node)
        if name in CALLED_BUILTINS:
            if [each for each in node.keywords if each.arg not in KEYWORDS_OF_BUILTINS.get(name, ())]:
                yield "L22", node, f"keyword of {name}"
        if name == "isinstance" and (len(node.args) != 2 or not is_kind(package, node.args[1])):
            yield "L22", node, "isinstance"


def is_kind(package, node):
    if isinstance(node, ast.Tuple):
        return all(is_kind(package, each) for each in node.elts)
    return isinstance(node, ast.Name) and node.id in KINDS_OF_VALUES | set(package.classes)


def in_isinstance(file, node):
    call = file.around(node, ast.Call)
    return call_name(call) == "isinstance" and (node is call.args[1] or node in ast.walk(call.args[1]))


def signature(package, name):
    """The node of the function that a call of a name reaches, and how many of its parameters are given already."""
    if name in package.functions:
        return package.functions[name], 0
    while name in package.classes:
        for node in package.classes[name].body:
            if isinstance(node, ast.FunctionDef) and node.name == "__init__":
                return node, 1
        bases = package.classes[name].bases
        name = bases[0].id if bases else None
    return None, 0


def check_calls(package, file):
    for node in file.nodes(ast.Call):
        name = call_name(node)
        around = file.around(node, ast.FunctionDef)
        if name is None or (around and name in [each.arg for each in around.args.args]):
            continue
        target, given = signature(package, name)
        if target is None or target.args.vararg or target.args.kwarg:
            continue
        names = [each.arg for each in target.args.args[given:]]
        only = [each.arg for each in target.args.kwonlyargs]
        passed = names[:len(node.args)] + [each.arg for each in node.keywords]
        needed = names[:len(names) - len(target.args.defaults)]
        needed += [each for each, worth in zip(only, target.args.kw_defaults) if worth is None]
        wrong = len(node.args) > len(names) or len(set(passed)) != len(passed) or not set(passed) <= set(names + only)
        if wrong or not set(needed) <= set(passed):
            yield "L22", node, f"call of {name}"


def check_class_uses(package, file):
    for node in file.nodes(ast.Name):
        parent = file.parents[node]
        if node.id not in package.classes or not isinstance(node.ctx, ast.Load):
            continue
        if node.id not in set(file.classes) | file.imported():
            continue
        called = isinstance(parent, ast.Call) and parent.func is node
        base = isinstance(parent, ast.ClassDef)
        caught = isinstance(parent, ast.ExceptHandler) or isinstance(file.parents.get(parent), ast.ExceptHandler)
        if not (called or base or caught or in_isinstance(file, node)):
            yield "L18", node, f"class {node.id} as a value"
    outer = set(file.classes) | set(file.functions) | set(module_values(file)) | file.imported()
    for node in file.nodes(ast.Attribute):
        if not isinstance(node.ctx, ast.Load) and not (isinstance(node.value, ast.Name) and node.value.id not in outer):
            yield "L18", node, "attribute that is not assigned through a local name"
        if not isinstance(node.ctx, ast.Load) and node.attr in package.properties:
            yield "L5", node, "an attribute has the name of a property"
        if isinstance(node.ctx, ast.Del):
            yield "L6", node, "del of an attribute"
        known = METHODS | package.method_names | package.attributes
        if isinstance(node.ctx, ast.Load) and node.attr not in known:
            yield "L18", node, f"attribute {node.attr} that no class assigns"


def check_errors(package, file):
    for node in file.tree.body:
        if isinstance(node, ast.ClassDef) and package.is_error(node.name):
            if len(node.bases) != 1 or {each.name for each in node.body if isinstance(each, ast.FunctionDef)} & {
                    "__eq__", "__len__", "__iter__", "__call__"}:
                yield "L18", node, "error class"
    for node in file.nodes(ast.Raise):
        bare = node.exc is None and file.around(node, ast.ExceptHandler)
        if not bare and not package.is_error(call_name(node.exc)):
            yield "L19", node, "raise"
    for node in file.nodes(ast.ExceptHandler):
        caught = node.type.elts if isinstance(node.type, ast.Tuple) else [node.type]
        for each in caught:
            name = each.id if isinstance(each, ast.Name) else None
            if name not in package.classes and name not in ("KeyError", "ZeroDivisionError"):
                yield "L19", node, "except"
            elif name in package.classes and not package.is_error(name):
                yield "L19", node, "except of a class that is no error"
    for node in file.nodes(ast.Try):
        if node.finalbody:
            yield "L6", node, "finally"


def check_is(package, file):
    for node in file.nodes(ast.Compare):
        sides = [node.left] + node.comparators
        for at, sign in enumerate(node.ops):
            if isinstance(sign, (ast.Is, ast.IsNot)):
                right = sides[at + 1]
                if not isinstance(right, ast.Constant) or right.value not in (None, True, False):
                    yield "L20", node, "is"


def check_iterated(package, file):
    for node in file.nodes(ast.Call):
        view = isinstance(node.func, ast.Attribute) and node.func.attr in VIEWS and not node.args
        if call_name(node) not in ITERATED_AT_ONCE and not view:
            continue
        parent = file.parents[node]
        at_once = isinstance(parent, (ast.For, ast.comprehension)) and parent.iter is node
        at_once = at_once or (call_name(parent) in ITERATES and node in parent.args)
        at_once = at_once or (isinstance(parent, ast.Call) and is_literal_join(parent.func))
        if call_name(node) == "range":
            at_once = at_once or call_name(parent) in ("len", "reversed") or isinstance(parent, ast.Compare)
        if not at_once:
            yield "L23", node, "not iterated at once"
    for node in file.nodes(ast.For):
        names = iterated_names(node.iter)
        for each in node.body + node.orelse:
            for inner in ast.walk(each):
                if modified_name(inner) in names:
                    yield "L23", inner, "a loop changes what it iterates over"


def iterated_names(node):
    if isinstance(node, ast.Call) and call_name(node) in ITERATED_AT_ONCE - {"range"}:
        return [name for each in node.args for name in iterated_names(each)]
    if isinstance(node, ast.Call) and isinstance(node.func, ast.Attribute) and node.func.attr in VIEWS:
        return [ast.unparse(node.func.value)]
    if isinstance(node, (ast.Name, ast.Attribute, ast.Subscript)):
        return [ast.unparse(node)]
    return []


def modified_name(node):
    if isinstance(node, ast.Call) and isinstance(node.func, ast.Attribute) and node.func.attr in MODIFIERS:
        return ast.unparse(node.func.value)
    if isinstance(node, ast.Subscript) and not isinstance(node.ctx, ast.Load):
        return ast.unparse(node.value)
    if isinstance(node, ast.AugAssign):
        return ast.unparse(node.target)
    return None


def is_set(node):
    return isinstance(node, (ast.Set, ast.SetComp)) or call_name(node) in ("set", "frozenset")


def check_sets(package, file):
    for node in file.nodes(ast.Set, ast.SetComp, ast.Call):
        if not is_set(node):
            continue
        parent = file.parents[node]
        while isinstance(parent, ast.BinOp):
            parent = file.parents[parent]
        written = isinstance(parent, ast.Compare) or (call_name(parent) in ("len", "sorted") and len(parent.args) == 1)
        stored = isinstance(parent, ast.Assign) and len(parent.targets) == 1 and isinstance(parent.targets[0], ast.Name)
        if stored:
            yield from check_stored_set(file, parent)
        elif not written:
            yield "L24", node, "set"
        if isinstance(node, ast.Set):
            integers = [each for each in node.elts if isinstance(each, ast.Constant) and isinstance(each.value, int)]
            if len(integers) > 2:
                yield "L13", node, "set of integers"


def check_stored_set(file, assign):
    name = assign.targets[0].id
    function = file.around(assign, FUNCTIONS)
    if function is None:
        yield "L24", assign, "set at module level"
        return
    for node in ast.walk(function):
        if not isinstance(node, ast.Name) or node.id != name or node is assign.targets[0]:
            continue
        parent = file.parents[node]
        used = isinstance(parent, ast.Attribute) and parent.attr in ("add", "discard")
        used = used or (isinstance(parent, ast.Compare) and node in parent.comparators)
        used = used or call_name(parent) in ("len", "sorted") or isinstance(parent, (ast.If, ast.While, ast.Assert))
        if not isinstance(node.ctx, ast.Load) or not used:
            yield "L24", node, "use of a stored set"


def check_method_calls(package, file):
    lambdas = [node.lineno for node in file.nodes(ast.Lambda)]
    for line in lambdas:
        if lambdas.count(line) > 1:
            yield "L13", line, "two lambdas on one line"
    for node in file.nodes(ast.Call):
        if not isinstance(node.func, ast.Attribute):
            continue
        name = node.func.attr
        if name not in METHODS | package.method_names and name not in package.attributes:
            yield "L25", node, f"method {name}"
        if name in METHODS and node.keywords:
            yield "L25", node, f"keyword of {name}"
    for node in file.nodes(ast.Attribute):
        parent = file.parents[node]
        called = isinstance(parent, ast.Call) and parent.func is node
        if node.attr in METHODS - package.attributes and not called:
            yield "L25", node, f"method {node.attr} as a value"


def check_numbers_and_strings(package, file):
    for node in file.nodes(ast.BinOp, ast.AugAssign):
        if isinstance(node.op, ast.Pow):
            exponent = node.right if isinstance(node, ast.BinOp) else node.value
            if not isinstance(exponent, ast.Constant) or exponent.value not in range(65):
                yield "L27", node, "exponent"
    docstrings = file.docstrings()
    for node in file.nodes(ast.Constant):
        if isinstance(node.value, str) and node not in docstrings:
            if "%" in node.value:
                yield "L27", node, "percent sign"
            if node.value.endswith(("._", ".__")) or re.match(r"^__.*__$", node.value) or FRAME_NAME.match(node.value):
                yield "L27", node, "string"
            if re.search(r"\b__", node.value) and ("{" in node.value or ("." in node.value and " " not in node.value)):
                yield "L27", node, "string"
    for token in tokenize.generate_tokens(io.StringIO(file.text).readline):
        if "STRING" in tokenize.tok_name[token.type] and re.search(r"\\", GOOD_ESCAPE.sub("", token.string)):
            yield "L27", token.start[0], "escape"
    with warnings.catch_warnings():
        warnings.simplefilter("error")
        try:
            compile(file.text, file.name, "exec")
        except SyntaxError as error:
            yield "L27", error.lineno or 1, "warning"


CHECKS = [
    check_files, check_imports, check_module_level, check_module_values_unchanged, check_functions, check_classes,
    check_methods, check_allowed, check_names, check_builtins, check_calls, check_class_uses, check_errors, check_is,
    check_iterated, check_sets, check_method_calls, check_numbers_and_strings,
]

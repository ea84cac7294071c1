"""Checks that a package keeps to LANGUAGE.md, as far as a script can.

What LANGUAGE.md allows on conditions only and this package doesn't need (sets, generators, lambdas, decorators,
annotations, the library ..) is refused altogether: who comes to need some of it widens the check first.
"""

import ast
import builtins
import re
import warnings

BUILTINS = set("""len range enumerate zip min max sum abs sorted reversed int str bool list tuple dict isinstance ord
    repr any all divmod""".split())
BUILTIN_ERRORS = set("""Exception ValueError TypeError KeyError IndexError LookupError ZeroDivisionError ArithmeticError
    OverflowError RuntimeError NotImplementedError""".split())
BUILTIN_KEYWORDS = {"sorted": {"key", "reverse"}, "min": {"key", "default"}, "max": {"key", "default"},
                    "sum": {"start"}, "enumerate": {"start"}, "zip": {"strict"}}
METHODS = set("""append clear copy count endswith extend find get index insert isalnum isalpha isdigit islower isspace
    isupper items join keys ljust lower lstrip partition pop remove replace reverse rfind rjust rpartition rsplit rstrip
    setdefault split splitlines startswith strip update upper values zfill bit_length title capitalize swapcase casefold
    center expandtabs removeprefix removesuffix rindex isascii isdecimal isnumeric istitle isidentifier
    isprintable""".split())
MODIFYING = {"append", "clear", "extend", "insert", "pop", "remove", "reverse", "setdefault", "update"}
ATTRIBUTES_LIKE_METHODS = set("count index title find get join lower upper split strip copy add".split())
NODES = set("""Module Expr Assign AugAssign Delete If While For Return Break Continue Pass Raise Assert Try ExceptHandler
    FunctionDef ClassDef ImportFrom alias arguments arg Call keyword Attribute Subscript Slice Name Constant List Tuple
    Dict ListComp DictComp comprehension Starred JoinedStr FormattedValue BinOp UnaryOp BoolOp Compare IfExp Load Store
    Del Add Sub Mult FloorDiv Mod Pow LShift RShift BitAnd BitOr BitXor Invert Not UAdd USub And Or Eq NotEq Lt LtE Gt
    GtE Is IsNot In NotIn""".split())
ITERATES = {"list", "tuple", "dict", "sorted", "sum", "any", "all", "enumerate", "zip", "min", "max"}
ITERATED_AT_ONCE = {"zip", "enumerate", "reversed", "range"}
VIEWS = {"items", "keys", "values"}
PLAIN_NAME = re.compile(r"_?[A-Za-z][A-Za-z0-9_]*|_")
BARRED_STARTS = ("_wall", "_pe_", "_dcw_", "_enum_", "_cm_", "_twin_re_", "_lay_", "_law_", "_stub_", "_sre", "_WallAttr")
BARRED_NAMES = re.compile(r"(_cold|_tuplegetter|_outside|_record|_written_out|_member_names)[0-9_]*")
BARRED_EVERYWHERE = set("register mro elements open input law version_info with_traceback add_note".split())
BARRED_AS_NAMES = set("""attrgetter breakpoint builtins compile copyright credits delattr dir eval exec exit gc getattr
    globals hasattr help id importlib license locals methodcaller os quit setattr super type vars sys __name__""".split())
FRAME_NAMES = re.compile(r"(f_(back|builtins|code|globals|lasti|lineno|locals|trace)|tb_\w+|co_\w+|gi_\w+|cr_\w+|ag_\w+)")
BARRED_WORDS = re.compile(r"\b(type|typing|typing_extensions|enum|Enum|IntEnum|StrEnum|Flag|IntFlag|Generic|Protocol|ABC"
                          r"|ABCMeta|namedtuple|NamedTuple|TypedDict|TYPE_CHECKING|abstractmethod)\b"
                          r"|dataclass|overload|contextmanager")
BARRED_FILES = set("test tests testing site conftest sitecustomize usercustomize heapq math itertools".split())


class Module:
    """A file of the package, with what it binds at module level."""

    def __init__(self, name, source):
        self.name = name
        self.source = source
        with warnings.catch_warnings():
            # check_text tells what Python warns of.
            warnings.simplefilter("ignore")
            self.tree = ast.parse(source)
        self.parents = {child: node for node in ast.walk(self.tree) for child in ast.iter_child_nodes(node)}
        self.functions = {node.name: node for node in self.tree.body if isinstance(node, ast.FunctionDef)}
        self.classes = {node.name: node for node in self.tree.body if isinstance(node, ast.ClassDef)}
        self.values = {node.targets[0].id: node for node in self.tree.body
                       if isinstance(node, ast.Assign) and isinstance(node.targets[0], ast.Name)}
        self.imports = {name.name: node.module for node in self.tree.body if isinstance(node, ast.ImportFrom)
                        for name in node.names}
        self.own = {**self.functions, **self.classes, **self.values}
        self.docstrings = {body_of(node)[0].value for node in ast.walk(self.tree) if has_docstring(node)}

    def nodes(self, *kinds):
        return [node for node in ast.walk(self.tree) if isinstance(node, kinds)]

    def all_functions(self):
        return self.nodes(ast.FunctionDef)


def body_of(node):
    return node.body if isinstance(node, (ast.Module, ast.ClassDef, ast.FunctionDef)) else []


def has_docstring(node):
    body = body_of(node)
    return bool(body) and isinstance(body[0], ast.Expr) and isinstance(body[0].value, ast.Constant) \
        and isinstance(body[0].value.value, str)


def is_plain(node):
    if isinstance(node, ast.UnaryOp) and isinstance(node.op, ast.USub):
        return isinstance(node.operand, ast.Constant) and type(node.operand.value) is int
    if isinstance(node, ast.Tuple):
        return all(map(is_plain, node.elts))
    return isinstance(node, ast.Constant) and (node.value is None or type(node.value) in (int, str, bool))


def bound_in(function):
    """The names that a function binds: parameters, variables, and what handlers name."""
    told = {arg.arg for arg in ast.walk(function.args) if isinstance(arg, ast.arg)}
    told |= {node.id for node in ast.walk(function) if isinstance(node, ast.Name) and not isinstance(node.ctx, ast.Load)}
    return told | {node.name for node in ast.walk(function) if isinstance(node, ast.ExceptHandler) and node.name}


class Package:
    """All files of a package, as a dict of sources by plain file names (without .py)."""

    def __init__(self, name, sources):
        self.name = name
        self.modules = {file: Module(file, source) for file, source in sources.items()}
        every = self.modules.values()
        self.functions = {key: node for module in every for key, node in module.functions.items()}
        self.classes = {key: node for module in every for key, node in module.classes.items()}
        self.errors = {key for key in self.classes if self.is_error(key)}
        self.methods = {}
        for node in self.classes.values():
            for method in node.body:
                if isinstance(method, ast.FunctionDef):
                    self.methods.setdefault(method.name, []).append(method)
        self.attributes = {node.attr for module in every for node in module.nodes(ast.Attribute)
                           if isinstance(node.ctx, ast.Store)}

    def is_error(self, name):
        bases = self.classes[name].bases if name in self.classes else []
        return any(base.id in BUILTIN_ERRORS or self.is_error(base.id) for base in bases if isinstance(base, ast.Name))

    def faults(self):
        """All faults, as strings that begin with the rule, the file and the line."""
        told = list(self.cycles())
        for file, module in self.modules.items():
            for check in CHECKS:
                for rule, line, words in check(self, module):
                    told.append(f"{rule} {file}.py:{line} {words}")
        return told

    def cycles(self):
        imports = {file: {path.removeprefix(self.name + ".") for path in module.imports.values() if path}
                   for file, module in self.modules.items()}
        for file in imports:
            reached, more = set(), {file}
            while more:
                more = {name for from_file in more for name in imports.get(from_file, ())} - reached
                reached |= more
            if file in reached:
                yield f"L16 {file}.py:1 imports itself through other files"


def check_text(package, module):
    lines = module.source.split("\n")
    if not re.fullmatch(r"[a-z][a-z0-9_]*|__init__|__main__", module.name) \
            or module.name in BARRED_FILES | set(dir(builtins)) or re.match("law_|test_", module.name):
        yield "L14", 1, "name of the file"
    if len(lines) > 400 or len(lines) == 400 and lines[-1]:
        yield "L10", 400, "more than 399 lines"
    for number, line in enumerate(lines, start=1):
        if len(line) > 120 or "\t" in line:
            yield "L10", number, "long line, or a tab"
        if not re.fullmatch("[ -~]*", line):
            yield "L14", number, "sign beyond ASCII"
        if "_wall" in line or "_WallAttr" in line:
            yield "L12", number, "barred word"
        for sign in re.findall(r"\\(.?)", line):
            if sign not in ("n", "t", "\\", "'", '"'):
                yield "L27", number, "escape or continued line"
    with warnings.catch_warnings():
        warnings.simplefilter("error")
        try:
            compile(module.source, module.name, "exec")
        except (SyntaxError, Warning) as fault:
            yield "L27", 1, f"Python warns: {fault}"


def check_nodes(package, module):
    for node in ast.walk(module.tree):
        line = getattr(node, "lineno", 1)
        if type(node).__name__ not in NODES:
            yield "L6", line, f"{type(node).__name__} is not used here"
        if isinstance(node, ast.Expr) and not isinstance(node.value, ast.Call) and node.value not in module.docstrings:
            yield "L6", line, "a statement that does nothing"
        if isinstance(node, ast.Constant) and node.value is not None and type(node.value) not in (int, str, bool):
            yield "L7", line, "literal of another kind"
        if isinstance(node, ast.FormattedValue) and (node.conversion != -1 or node.format_spec):
            yield "L7", line, "format in an f-string"
        if isinstance(node, ast.JoinedStr) and node.lineno != node.end_lineno:
            yield "L27", line, "f-string over several lines"
        if isinstance(node, (ast.FunctionDef, ast.ClassDef)) and node.decorator_list:
            yield "L4", line, "decorator"
        if isinstance(node, (ast.BinOp, ast.AugAssign)) and isinstance(node.op, ast.Pow):
            power = node.right if isinstance(node, ast.BinOp) else node.value
            if not isinstance(power, ast.Constant) or not 0 <= power.value <= 64:
                yield "L27", line, "exponent"
        if isinstance(node, ast.Compare) and any(isinstance(op, (ast.Is, ast.IsNot)) for op in node.ops):
            if not all(isinstance(side, ast.Constant) and side.value in (None, True, False)
                       and type(side.value) is not int for side in node.comparators):
                yield "L20", line, "is beside something else"
        if isinstance(node, ast.Starred) and not isinstance(module.parents[node], (ast.List, ast.Tuple)):
            yield "L7", line, "star in a call"
        if isinstance(node, ast.Delete) and not all(isinstance(each, ast.Subscript) for each in node.targets):
            yield "L6", line, "del of something else than items"


def check_strings(package, module):
    for node in module.nodes(ast.Constant):
        if isinstance(node.value, int) and len(str(abs(node.value))) > 900:
            yield "L27", node.lineno, "long number"
        if isinstance(node.value, str) and node not in module.docstrings:
            if "%" in node.value:
                yield "L27", node.lineno, "sign of percent in a string"
            if node.value.endswith(("._", ".__")) or "__" in node.value or FRAME_NAMES.search(node.value):
                yield "L27", node.lineno, "barred string"
            if BARRED_WORDS.search(node.value):
                yield "L17", node.lineno, "barred word in a string"


def check_module_level(package, module):
    seen, past_imports = [], False
    for node in module.tree.body:
        if node.lineno and isinstance(node, ast.Expr):
            if node is not module.tree.body[0] or not has_docstring(module.tree):
                yield "L3", node.lineno, "code at module level"
            continue
        if isinstance(node, ast.ImportFrom):
            if past_imports:
                yield "L2", node.lineno, "import not at the top"
            seen.extend(name.name for name in node.names)
            continue
        past_imports = True
        if isinstance(node, (ast.FunctionDef, ast.ClassDef)):
            seen.append(node.name)
        elif isinstance(node, ast.Assign) and len(node.targets) == 1 and isinstance(node.targets[0], ast.Name):
            seen.append(node.targets[0].id)
            if not is_plain(node.value):
                yield "L3", node.lineno, "no plain value"
        else:
            yield "L3", node.lineno, "code at module level"
    for name in seen:
        if seen.count(name) > 1:
            yield "L15", 1, f"{name} is bound twice"


def check_imports(package, module):
    for node in module.nodes(ast.Import):
        yield "L2", node.lineno, "import of a module"
    for node in module.nodes(ast.ImportFrom):
        file = (node.module or "").removeprefix(package.name + ".")
        if node.level or file == node.module or file not in package.modules or any(name.asname for name in node.names):
            yield "L2", node.lineno, "import from elsewhere, or by another name"
            continue
        for name in node.names:
            if name.name not in package.modules[file].own:
                yield "L16", node.lineno, f"{name.name} is not defined there"


def check_functions(package, module):
    for function in module.all_functions():
        line, parent = function.lineno, module.parents[function]
        if not isinstance(parent, (ast.Module, ast.ClassDef)):
            yield "L4", line, "nested function"
        if function.end_lineno - line + 1 > 40:
            yield "L10", line, "long function"
        args = function.args
        if args.vararg or args.kwarg or args.kwonlyargs or args.posonlyargs or not all(map(is_plain, args.defaults)):
            yield "L4", line, "parameters"
        if function.returns or any(arg.annotation for arg in args.args):
            yield "L21", line, "annotation"
        taken = (set(module.imports) | set(module.classes)) & bound_in(function)
        if taken:
            yield "L15", line, f"{sorted(taken)} are bound again"
        if function.name == "__init__" and any(isinstance(node, ast.Return) for node in ast.walk(function)):
            yield "L28", line, "return in __init__"


def check_names(package, module):
    told = [(node.id, node.lineno) for node in module.nodes(ast.Name) if not isinstance(node.ctx, ast.Load)]
    told += [(node.arg, node.lineno) for node in module.nodes(ast.arg)]
    told += [(node.name, node.lineno) for node in module.nodes(ast.ExceptHandler) if node.name]
    told += [(node.name, node.lineno) for node in module.nodes(ast.FunctionDef, ast.ClassDef)]
    told += [(name, 1) for name in module.imports]
    methods = [node for each in module.classes.values() for node in each.body]
    plain = {node.name for node in methods if isinstance(node, ast.FunctionDef)}
    for name, line in told:
        if name in BARRED_AS_NAMES:
            yield "L17", line, f"{name} is barred"
        if name in dir(builtins) and name not in plain:
            yield "L15", line, f"{name} is a builtin's name"
    told += [(node.attr, node.lineno) for node in module.nodes(ast.Attribute)]
    told += [(node.arg, node.value.lineno) for node in module.nodes(ast.keyword) if node.arg]
    for name, line in told:
        if name in BARRED_EVERYWHERE or FRAME_NAMES.fullmatch(name) or BARRED_WORDS.search(name):
            yield "L17", line, f"{name} is barred"
        if name != "__init__" and not PLAIN_NAME.fullmatch(name) or name.startswith(BARRED_STARTS) \
                or BARRED_NAMES.fullmatch(name):
            yield "L12", line, f"{name} is no plain name"
    for name, node in module.classes.items():
        if name.startswith("_"):
            yield "L12", node.lineno, "name of a class"


def check_lookups(package, module):
    known = set(module.own) | set(module.imports) | BUILTINS | BUILTIN_ERRORS
    for function in module.all_functions():
        bound = bound_in(function)
        for node in ast.walk(function):
            if isinstance(node, ast.Name) and isinstance(node.ctx, ast.Load) and node.id == "_":
                yield "L12", node.lineno, "_ is read"
            elif isinstance(node, ast.Name) and node.id not in bound | known:
                if not (node.id == "super" and is_super_call(module, node)):
                    yield "L8", node.lineno, f"{node.id} is not known"


def is_super_call(module, node):
    """super().told(..), a call of a method."""
    call = module.parents[node]
    read = module.parents[call]
    return isinstance(call, ast.Call) and call.func is node and not call.args and isinstance(read, ast.Attribute) \
        and isinstance(module.parents[read], ast.Call) and module.parents[read].func is read


def check_classes(package, module):
    for name, each in module.classes.items():
        methods = [node.name for node in each.body if isinstance(node, ast.FunctionDef)]
        rest = each.body[1:] if has_docstring(each) else each.body
        if not all(isinstance(node, (ast.FunctionDef, ast.Pass)) for node in rest) or each.keywords:
            yield "L5", each.lineno, "something else than methods in a class"
        if any(method.startswith("__") and method != "__init__" for method in methods):
            yield "L5", each.lineno, "method with double underscores"
        for base in each.bases:
            if not isinstance(base, ast.Name) or base.id not in package.classes and base.id not in BUILTIN_ERRORS:
                yield "L5", each.lineno, "base class"
        if len(each.bases) > 1:
            yield "L5", each.lineno, "several base classes"
        stored = {node.attr for node in ast.walk(each) if isinstance(node, ast.Attribute)
                  and isinstance(node.ctx, ast.Store)}
        if stored & set(methods) or len(set(methods)) < len(methods):
            yield "L18", each.lineno, "a name for two things"
        for told in stored | set(methods):
            if any(hasattr(kind, told) for kind in (str, int, list, tuple, dict, set, bytes)) and told != "__init__" \
                    and told not in (ATTRIBUTES_LIKE_METHODS if told in stored else METHODS | {"add", "discard"}):
                yield "L26", each.lineno, f"{told} is a builtin value's name"
    for node in module.nodes(ast.Name):
        if isinstance(node.ctx, ast.Load) and (node.id in package.classes or node.id in BUILTIN_ERRORS):
            if not is_use_of_class(module, node):
                yield "L18", node.lineno, f"{node.id} as a value"


def is_use_of_class(module, node):
    parent = module.parents[node]
    if isinstance(parent, ast.Tuple):
        node, parent = parent, module.parents[parent]
    if isinstance(parent, ast.Call):
        is_kind = isinstance(parent.func, ast.Name) and parent.func.id == "isinstance" and node in parent.args[1:]
        return parent.func is node or is_kind
    return isinstance(parent, (ast.ClassDef, ast.ExceptHandler, ast.Raise))


def check_errors(package, module):
    for node in module.nodes(ast.ExceptHandler):
        kinds = node.type.elts if isinstance(node.type, ast.Tuple) else [node.type]
        for kind in kinds:
            caught = kind.id if isinstance(kind, ast.Name) else ""
            if caught not in package.errors | {"KeyError", "ZeroDivisionError"}:
                yield "L19", node.lineno, "what is caught"
    for node in module.nodes(ast.Raise):
        if node.exc is None:
            continue
        made = node.exc.func if isinstance(node.exc, ast.Call) else node.exc
        if not isinstance(made, ast.Name) or made.id not in package.errors | BUILTIN_ERRORS:
            yield "L19", node.lineno, "what is raised"
        if node.cause and not (isinstance(node.cause, ast.Constant) and node.cause.value is None):
            yield "L19", node.lineno, "what it is raised from"


def check_calls(package, module):
    for node in module.nodes(ast.Call):
        keywords = {keyword.arg for keyword in node.keywords}
        if isinstance(node.func, ast.Name):
            name = node.func.id
            if name in BUILTINS and not keywords <= BUILTIN_KEYWORDS.get(name, set()):
                yield "L22", node.lineno, f"keyword of {name}"
            called = [package.functions[name]] if name in package.functions else []
            if name in package.classes:
                called = [each for each in package.classes[name].body if getattr(each, "name", "") == "__init__"]
        elif isinstance(node.func, ast.Attribute):
            name = node.func.attr
            called = package.methods.get(name, [])
            if not called and name not in METHODS and not is_super_init(node.func):
                yield "L25", node.lineno, f"method {name}"
            if not called and keywords:
                yield "L25", node.lineno, f"keyword of {name}"
        else:
            yield "L7", node.lineno, "call of something else"
            continue
        if called and not any(takes(each, node, keywords) for each in called):
            yield "L22", node.lineno, f"arguments of {name}"


def is_super_init(node):
    return node.attr == "__init__" and isinstance(node.value, ast.Call) and isinstance(node.value.func, ast.Name) \
        and node.value.func.id == "super"


def takes(function, call, keywords):
    names = [arg.arg for arg in function.args.args if arg.arg != "self"]
    given = len(call.args) + len(keywords)
    by_place = set(names[:len(call.args)])
    return len(names) - len(function.args.defaults) <= given <= len(names) and keywords <= set(names) - by_place


def check_attributes(package, module):
    for node in module.nodes(ast.Attribute):
        parent = module.parents[node]
        is_called = isinstance(parent, ast.Call) and parent.func is node
        if not is_called and node.attr not in package.attributes:
            yield "L18", node.lineno, f"nothing assigns {node.attr}"
        if not isinstance(node.ctx, ast.Load) and not isinstance(node.value, ast.Name):
            yield "L18", node.lineno, "attribute assigned off something else than a name"


def check_iteration(package, module):
    for node in module.nodes(ast.Call):
        is_builtin = isinstance(node.func, ast.Name) and node.func.id in ITERATED_AT_ONCE
        is_view = isinstance(node.func, ast.Attribute) and node.func.attr in VIEWS
        if (is_builtin or is_view) and not is_iterated_at_once(module, node):
            yield "L23", node.lineno, "kept instead of iterated at once"
    for node in module.nodes(ast.For):
        gone_over = {ast.unparse(each) for each in iterated(node.iter)}
        for each in node.body:
            for changed, line in modified(each):
                if changed in gone_over:
                    yield "L23", line, f"{changed} is modified in its loop"
        if not all(isinstance(each, (ast.Name, ast.Tuple, ast.Starred, ast.expr_context))
                   for each in ast.walk(node.target)):
            yield "L23", node.lineno, "target of a loop"


def is_iterated_at_once(module, node):
    parent = module.parents[node]
    if isinstance(parent, (ast.For, ast.comprehension)):
        return parent.iter is node
    if isinstance(parent, ast.Compare):
        return isinstance(node.func, ast.Name) and node.func.id == "range"
    return isinstance(parent, ast.Call) and isinstance(parent.func, ast.Name) and node is parent.args[0] \
        and parent.func.id in ITERATES


def iterated(node):
    """What a loop goes over, also through enumerate, zip, reversed and views."""
    if isinstance(node, ast.Call) and isinstance(node.func, ast.Name) and node.func.id in ITERATED_AT_ONCE:
        return [each for arg in node.args for each in iterated(arg)]
    if isinstance(node, ast.Call) and isinstance(node.func, ast.Attribute) and node.func.attr in VIEWS:
        return iterated(node.func.value)
    return [node]


def modified(node):
    for each in ast.walk(node):
        if isinstance(each, ast.Call) and isinstance(each.func, ast.Attribute) and each.func.attr in MODIFYING:
            yield ast.unparse(each.func.value), each.lineno
        if isinstance(each, ast.Subscript) and not isinstance(each.ctx, ast.Load):
            yield ast.unparse(each.value), each.lineno
        if isinstance(each, ast.AugAssign):
            yield ast.unparse(each.target), each.lineno


CHECKS = (check_text, check_nodes, check_strings, check_module_level, check_imports, check_functions, check_names,
          check_lookups, check_classes, check_errors, check_calls, check_attributes, check_iteration)

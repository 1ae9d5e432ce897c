"""Finds what in the package is outside of ../shared/LANGUAGE.md.

The package is written in less than that document lets: what it does not need (generators, sets, bytes, with, match,
decorators, stars, annotations ..) is told here as a fault, by the rule that would have to be looked up before it is
used. Of `try` it has only handlers of own errors, of default values only those of parameters behind a bare star, and
of the library only numbers' functions.
"""

import ast
import builtins
import re

PACKAGE = "kindredbush"

NODES = {
    "Module", "Expr", "FunctionDef", "ClassDef", "arguments", "arg", "Return", "Assign", "AugAssign", "For", "While",
    "If", "Raise", "Break", "Continue", "Pass", "ImportFrom", "alias", "BoolOp", "BinOp", "UnaryOp", "Compare",
    "Call", "IfExp", "Attribute", "Subscript", "Slice", "Name", "Constant", "List", "Tuple", "Dict", "ListComp",
    "DictComp", "comprehension", "Lambda", "JoinedStr", "FormattedValue", "Load", "Store", "keyword",
    "And", "Or", "Not", "USub", "Add", "Sub", "Mult", "FloorDiv", "Mod",
    "Eq", "NotEq", "Lt", "LtE", "Gt", "GtE", "In", "NotIn", "Is", "IsNot", "Try", "ExceptHandler",
}
OF_MATH = {"gcd", "lcm", "factorial"}
BUILTINS = {
    "len", "range", "enumerate", "zip", "min", "max", "sum", "abs", "sorted", "reversed", "int", "str", "bool",
    "list", "tuple", "dict", "isinstance", "ord", "repr", "any", "all", "divmod", "ValueError", "LookupError",
}
METHODS = set(
    "append clear copy count endswith extend find get index insert isalnum isalpha isdigit islower isspace isupper "
    "items join keys ljust lower lstrip partition pop remove replace reverse rfind rjust rpartition rsplit rstrip "
    "setdefault split splitlines startswith strip update upper values zfill bit_length".split())
MODIFYING = {"append", "clear", "extend", "insert", "pop", "remove", "reverse", "setdefault", "update"}
ONCE = {"zip", "enumerate", "reversed"}
BARRED_WORDS = set(
    "type typing typing_extensions enum Enum IntEnum StrEnum Flag IntFlag Generic Protocol ABC ABCMeta namedtuple "
    "NamedTuple TypedDict TYPE_CHECKING abstractmethod dataclass overload contextmanager".split())
BARRED_NAMES = set(
    "register mro elements open input law version_info with_traceback add_note attrgetter breakpoint builtins compile "
    "copyright credits delattr dir eval exec exit gc getattr globals hasattr help id importlib license locals "
    "methodcaller os quit setattr super type vars sys".split())
BARRED_STARTS = ("_wall", "_pe_", "_dcw_", "_enum_", "_cm_", "_twin_re_", "_lay_", "_law_", "_stub_", "_sre",
                 "_cold", "_tuplegetter", "_outside", "_record", "_written_out", "_member_names", "__")
DOUBLE = {"__init__", "__eq__"}
OF_VALUES = {name for kind in (str, int, list, dict, set, bytes, tuple) for name in dir(kind)} - {"add", "discard"}


def faults_of_package(sources):
    """The faults of a dict of the sources of a package's files by their names, as strings."""
    trees = {name: ast.parse(source) for name, source in sources.items()}
    found = []
    for name, source in sources.items():
        checks = [faults_of_name(name), faults_of_lines(source), faults_of_tree(trees[name]),
                  faults_of_module(trees[name]), faults_of_imports(trees[name], trees),
                  faults_of_scopes(trees[name]), faults_of_classes(trees[name]), faults_of_loops(trees[name])]
        found.extend(f"{name}:{line}: {rule}" for check in checks for line, rule in check)
    return found + faults_of_circles(trees) + faults_of_calls(trees)


def faults_of_name(name):
    stem = name.removesuffix(".py")
    if not re.fullmatch(r"__init__|[a-z][a-z0-9_]*", stem) or stem in dir(builtins) or stem.startswith(("test", "law_")):
        yield 1, f"L1, L14 name of a file: {name}"


def faults_of_lines(source):
    lines = source.split("\n")
    if len(lines) > 400:
        yield 400, "L10 a file has at most 399 lines"
    if not source.endswith("\n"):
        yield len(lines), "L10 the last line ends"
    for number, line in enumerate(lines, 1):
        if len(line) > 120:
            yield number, "L10 a line has at most 120 characters"
        if any(not " " <= sign <= "~" for sign in line):
            yield number, "L14 characters"
        if "_wall" in line or "_WallAttr" in line:
            yield number, "L12 words"


def docstrings(tree):
    found = set()
    for node in ast.walk(tree):
        if isinstance(node, (ast.Module, ast.ClassDef, ast.FunctionDef)) and ast.get_docstring(node) is not None:
            found.add(id(node.body[0].value))
    return found


def faults_of_tree(tree):
    """Node by node."""
    told = docstrings(tree)
    for node in ast.walk(tree):
        line = getattr(node, "lineno", 1)
        if type(node).__name__ not in NODES:
            yield line, f"not used here: {type(node).__name__}"
        if isinstance(node, ast.Constant) and id(node) not in told:
            yield from faults_of_constant(node, line)
        if isinstance(node, ast.Expr) and not isinstance(node.value, (ast.Call, ast.Constant)):
            yield line, "L6 a statement that is only a value"
        if isinstance(node, ast.Compare):
            if len(node.ops) > 1:
                yield line, "chained comparisons are not used here"
            if isinstance(node.ops[0], (ast.Is, ast.IsNot)) and not (
                    isinstance(node.comparators[0], ast.Constant) and node.comparators[0].value is None):
                yield line, "L20 is"
        if isinstance(node, ast.FunctionDef):
            yield from faults_of_function(node, line)
        if isinstance(node, ast.Raise) and not (isinstance(node.exc, ast.Call) and isinstance(node.exc.func, ast.Name)
                                                and node.cause is None):
            yield line, "L19 raise"
        if isinstance(node, ast.Assign) and len(node.targets) > 1:
            yield line, "several targets are not used here"
        if isinstance(node, ast.Call):
            yield from faults_of_call(node, line)
        for name in names_in(node):
            if name in BARRED_NAMES or name in BARRED_WORDS or (name.startswith(BARRED_STARTS) and name not in DOUBLE):
                yield line, f"L8, L12, L17 name: {name}"
            if name == "_" and isinstance(getattr(node, "ctx", None), ast.Store):
                continue
            if not re.fullmatch(r"_?[A-Za-z][A-Za-z0-9_]*|__init__|__eq__", name):
                yield line, f"L12 name: {name}"


def names_in(node):
    """The names that a node itself has."""
    if isinstance(node, ast.Name):
        return [node.id]
    if isinstance(node, ast.Attribute):
        return [node.attr]
    if isinstance(node, (ast.FunctionDef, ast.ClassDef)):
        return [node.name]
    if isinstance(node, ast.arg):
        return [node.arg]
    return []


def faults_of_constant(node, line):
    value = node.value
    if value is not None and not isinstance(value, (bool, int, str)):
        yield line, "L7 a constant"
    if isinstance(value, str):
        if "%" in value:
            yield line, "L27 the character %"
        if BARRED_WORDS & set(re.findall(r"\w+", value)) or "__" in value:
            yield line, "L17, L27 a word in a string"
        if any(not " " <= sign <= "~" and sign not in "\n\t" for sign in value):
            yield line, "L27 an escape"
    if isinstance(value, int) and abs(value) >= 10 ** 900:
        yield line, "L27 a number"


def faults_of_function(node, line):
    if node.end_lineno - node.lineno + 1 > 40:
        yield line, "L10 a function has at most 40 lines"
    told = node.args
    if told.vararg or told.kwarg or told.posonlyargs or told.defaults or node.decorator_list:
        yield line, "L4 plain parameters alone are used here"
    if not all(is_plain(one) for one in told.kw_defaults) or (told.kwonlyargs and node.name.startswith("__")):
        yield line, "L4 a bare star and plain default values"
    if node.returns or any(one.annotation for one in told.args + told.kwonlyargs):
        yield line, "L21 an annotation"
    if any(isinstance(one, (ast.FunctionDef, ast.ClassDef)) for one in ast.walk(node) if one is not node):
        yield line, "nested functions are not used here"
    if node.name == "__init__" and any(isinstance(one, ast.Return) for one in ast.walk(node)):
        yield line, "L28 __init__ returns"
    if node.name.startswith("__") and (node.name not in DOUBLE or not told.args or told.args[0].arg != "self"):
        yield line, "L5 a double-underscore method"


def faults_of_call(node, line):
    name = node.func.id if isinstance(node.func, ast.Name) else None
    if isinstance(node.func, ast.Attribute) and isinstance(node.func.value, ast.Constant):
        if node.func.attr != "join":
            yield line, "only join is called of a literal here"
    if not isinstance(node.func, (ast.Name, ast.Attribute)):
        yield line, "L7 what is called"
    keywords = [keyword.arg for keyword in node.keywords]
    if (keywords and name in BUILTINS and not (name == "sorted" and set(keywords) <= {"key", "reverse"})) or (
            keywords and (name is None or name in OF_MATH)):
        yield line, "L22 keywords"
    if name in ("any", "all", "min", "max", "sum", "sorted"):
        if any(isinstance(one, ast.GeneratorExp) for one in node.args):
            yield line, "L7 a list, where a class has __eq__"
    if name == "isinstance":
        kinds = node.args[1].elts if isinstance(node.args[1], ast.Tuple) else [node.args[1]]
        if not all(isinstance(kind, ast.Name) for kind in kinds):
            yield line, "L22 isinstance"
    if isinstance(node.func, ast.Attribute) and node.func.attr in ("items", "keys", "values") and node.args:
        yield line, "L25 arguments of a view"


def is_plain(node):
    if isinstance(node, ast.Constant):
        return not isinstance(node.value, float)
    if isinstance(node, ast.Tuple):
        return all(is_plain(one) for one in node.elts)
    if isinstance(node, ast.Dict):
        return all(is_plain(one) and not isinstance(one, ast.Dict) for one in node.keys + node.values)
    return isinstance(node, ast.UnaryOp) and isinstance(node.op, ast.USub) and is_plain(node.operand)


def faults_of_module(tree):
    bound = []
    for number, node in enumerate(tree.body):
        if isinstance(node, ast.Expr) and number == 0 and isinstance(node.value, ast.Constant):
            continue
        if isinstance(node, ast.Assign):
            if not (isinstance(node.targets[0], ast.Name) and is_plain(node.value)):
                yield node.lineno, "L3 a plain value at module level"
            bound.extend(one.id for one in node.targets if isinstance(one, ast.Name))
        elif isinstance(node, ast.ImportFrom):
            if any(not isinstance(one, (ast.ImportFrom, ast.Expr)) for one in tree.body[:number]):
                yield node.lineno, "L2 imports stand at the top"
            bound.extend(alias.name for alias in node.names)
        elif isinstance(node, (ast.FunctionDef, ast.ClassDef)):
            bound.append(node.name)
        else:
            yield node.lineno, "L3 module level"
    for name in bound:
        if bound.count(name) > 1 or name in dir(builtins):
            yield 1, f"L15 bound once, and no builtin: {name}"


def faults_of_imports(tree, trees):
    for node in ast.walk(tree):
        if not isinstance(node, ast.ImportFrom):
            continue
        parts = (node.module or "").split(".")
        if parts == ["math"] and not node.level:
            if any(alias.asname or alias.name not in OF_MATH for alias in node.names):
                yield node.lineno, "L2 the library"
            continue
        if node.level or len(parts) != 2 or parts[0] != PACKAGE or parts[1] + ".py" not in trees:
            yield node.lineno, "L2, L16 imports from files of the package"
            continue
        for alias in node.names:
            if alias.asname or alias.name not in bound_in(trees[parts[1] + ".py"]):
                yield node.lineno, f"L16 the file that defines the name: {alias.name}"
    used = {node.id for node in ast.walk(tree) if isinstance(node, ast.Name)}
    for node in tree.body:
        if isinstance(node, ast.ImportFrom):
            for alias in node.names:
                if alias.name not in used:
                    yield node.lineno, f"an import that is not used: {alias.name}"


def bound_in(tree):
    """The names that a file itself defines."""
    names = {node.name for node in tree.body if isinstance(node, (ast.FunctionDef, ast.ClassDef))}
    return names | {node.targets[0].id for node in tree.body if isinstance(node, ast.Assign)}


def faults_of_scopes(tree):
    """L15: no parameter or local variable has the name of a builtin, or of anything of its file; L8: builtins."""
    tops = bound_in(tree) | {alias.name for node in tree.body if isinstance(node, ast.ImportFrom)
                             for alias in node.names}
    for function in [node for node in ast.walk(tree) if isinstance(node, ast.FunctionDef)]:
        local = {node.arg for node in ast.walk(function) if isinstance(node, ast.arg)}
        local |= {node.id for node in ast.walk(function)
                  if isinstance(node, ast.Name) and isinstance(node.ctx, ast.Store)}
        caught = {node.name for node in ast.walk(function) if isinstance(node, ast.ExceptHandler)}
        for name in sorted(local & tops) + sorted(local & set(dir(builtins))):
            yield function.lineno, f"L15 a local name: {name}"
        for node in ast.walk(function):
            if isinstance(node, ast.Name) and node.id not in local | tops | caught | BUILTINS:
                yield node.lineno, f"L8 a name: {node.id}"
        calls = [node.func for node in ast.walk(function) if isinstance(node, ast.Call)]
        for node in ast.walk(function):
            if isinstance(node, ast.Name) and node.id in BUILTINS | OF_MATH and node not in calls and not in_isinstance(
                    function, node):
                yield node.lineno, f"L22 a builtin that is not called: {node.id}"
        yield from faults_of_handlers(function, local)


def faults_of_handlers(function, local):
    """L6, L19: own errors alone are caught, by name; what a handler names has no other meaning in its function."""
    handlers = [node for node in ast.walk(function) if isinstance(node, ast.ExceptHandler)]
    named = [node.name for node in handlers if node.name]
    for node in handlers:
        if not isinstance(node.type, ast.Name) or node.type.id in dir(builtins):
            yield node.lineno, "L19 own errors alone are caught here"
        if node.name and (named.count(node.name) > 1 or node.name in local or node.name in dir(builtins)):
            yield node.lineno, f"L19 the name of an error: {node.name}"
        for one in ast.walk(function):
            if isinstance(one, ast.Name) and one.id == node.name and isinstance(one.ctx, ast.Store):
                yield one.lineno, "L19 the name of an error is assigned"
    for node in [one for one in ast.walk(function) if isinstance(one, ast.Try)]:
        if node.finalbody or node.orelse:
            yield node.lineno, "L6 finally and else are not used here"


def in_isinstance(function, name):
    for node in ast.walk(function):
        if isinstance(node, ast.Call) and isinstance(node.func, ast.Name) and node.func.id == "isinstance":
            if any(one is name for one in ast.walk(node.args[1])):
                return True
    return False


def faults_of_classes(tree):
    for node in [node for node in tree.body if isinstance(node, ast.ClassDef)]:
        methods = [one.name for one in node.body if isinstance(one, ast.FunctionDef)]
        stored = {one.attr for one in ast.walk(node) if isinstance(one, ast.Attribute)
                  and isinstance(one.ctx, ast.Store)}
        if len(set(methods)) < len(methods) or set(methods) & stored:
            yield node.lineno, "L18 a method defined twice, or a method and an attribute"
        for name in sorted((set(methods) | stored) & OF_VALUES - DOUBLE):
            yield node.lineno, f"L26 a name that values have: {name}"
        for one in node.body:
            is_told = isinstance(one, ast.Expr) and isinstance(one.value, ast.Constant)
            if not isinstance(one, ast.FunctionDef) and not is_told:
                yield one.lineno, "L5 a class has methods alone here"
            if isinstance(one, ast.FunctionDef) and one.name == "__eq__":
                if any(isinstance(part, (ast.Assign, ast.AugAssign)) for part in ast.walk(one)):
                    yield one.lineno, "L28 __eq__ changes nothing"
    for node in ast.walk(tree):
        if isinstance(node, ast.Attribute) and isinstance(node.ctx, ast.Store):
            if not (isinstance(node.value, ast.Name) and node.value.id == "self"):
                yield node.lineno, "L18 attributes are assigned through self here"


def root_of(node):
    while isinstance(node, (ast.Attribute, ast.Subscript)):
        node = node.value
    return node.id if isinstance(node, ast.Name) else None


def faults_of_loops(tree):
    """L23: what a loop goes over is not modified in it, and what is iterated once stands in a loop."""
    for node in ast.walk(tree):
        if not isinstance(node, ast.For):
            continue
        over = {one.id for one in ast.walk(node.iter) if isinstance(one, ast.Name)}
        for one in [part for row in node.body for part in ast.walk(row)]:
            if isinstance(one, ast.Call) and isinstance(one.func, ast.Attribute) and one.func.attr in MODIFYING:
                if root_of(one.func.value) in over - {"self"}:
                    yield one.lineno, "L23 modified in its loop"
            if isinstance(one, (ast.Subscript, ast.Attribute)) and isinstance(one.ctx, ast.Store):
                if root_of(one) in over:
                    yield one.lineno, "L23 modified in its loop"
    allowed = set()
    for node in ast.walk(tree):
        if isinstance(node, (ast.For, ast.comprehension)):
            allowed.add(id(node.iter))
        if isinstance(node, ast.Call) and isinstance(node.func, ast.Name) and node.func.id in (
                "list", "tuple", "dict", "sorted", "sum", "any", "all", "enumerate", "zip", "min", "max"):
            allowed.update(id(one) for one in node.args)
    for node in ast.walk(tree):
        if isinstance(node, ast.Call) and id(node) not in allowed:
            name = node.func.id if isinstance(node.func, ast.Name) else getattr(node.func, "attr", None)
            if name in ONCE or (isinstance(node.func, ast.Attribute) and name in ("items", "keys", "values")):
                yield node.lineno, "L23 iterated at once"


def faults_of_circles(trees):
    """L16: no two files import from each other, neither directly nor through other files."""
    wants = {name: {node.module.split(".")[-1] + ".py" for node in ast.walk(tree) if isinstance(node, ast.ImportFrom)}
             for name, tree in trees.items()}
    left = dict(wants)
    while True:
        free = [name for name, wanted in left.items() if not wanted & set(left)]
        if not free:
            break
        left = {name: wanted for name, wanted in left.items() if name not in free}
    return [f"{name}:1: L16 imports in a circle" for name in left]


def faults_of_calls(trees):
    """Methods: those of L25 and own ones; and each call of an own one passes what it takes."""
    takes, methods, behind = {}, {}, {}
    for tree in trees.values():
        for node in tree.body:
            if isinstance(node, ast.FunctionDef):
                takes.setdefault(node.name, set()).add(len(node.args.args))
                behind.setdefault(node.name, set()).update(one.arg for one in node.args.kwonlyargs)
            if isinstance(node, ast.ClassDef):
                own = [one for one in node.body if isinstance(one, ast.FunctionDef)]
                made = [len(one.args.args) - 1 for one in own if one.name == "__init__"]
                takes.setdefault(node.name, set()).add(made[0] if made else 0)
                for one in own:
                    methods.setdefault(one.name, set()).add(len(one.args.args) - 1)
    found = []
    for name, tree in trees.items():
        for node in [node for node in ast.walk(tree) if isinstance(node, ast.Call)]:
            if isinstance(node.func, ast.Attribute):
                if node.func.attr not in METHODS | set(methods):
                    found.append(f"{name}:{node.lineno}: L25 a method: {node.func.attr}")
                elif node.func.attr in methods and len(node.args) not in methods[node.func.attr]:
                    found.append(f"{name}:{node.lineno}: L22 arguments: {node.func.attr}")
            elif isinstance(node.func, ast.Name) and node.func.id in takes:
                keywords = {keyword.arg for keyword in node.keywords}
                if len(node.args) not in takes[node.func.id] or not keywords <= behind.get(node.func.id, set()):
                    found.append(f"{name}:{node.lineno}: L22 arguments: {node.func.id}")
    return found

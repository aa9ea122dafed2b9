"""The rules L1 to L28 of LANGUAGE.md, by which the code of the package is looked through.

What the package does not use is not let through here, even where a rule allows it. So most rules
become short; code that needs more of the language widens its rule here first.
"""

import ast
import builtins
import io
import re
import sys
import tokenize
import warnings

from language_code import COMPREHENSIONS, is_method, is_static, local_names, parameters

CALLED = (
    "len range enumerate zip min max sum abs sorted reversed int str bool list tuple dict set isinstance ord "
    "repr any all divmod"
).split()
ERRORS = (
    "Exception ValueError TypeError KeyError IndexError LookupError ZeroDivisionError ArithmeticError "
    "OverflowError RuntimeError NotImplementedError"
).split()
# The methods of builtin values, with the least and the greatest number of their arguments.
METHODS = {
    "append": (1, 1), "clear": (0, 0), "copy": (0, 0), "count": (1, 1), "endswith": (1, 1), "extend": (1, 1),
    "find": (1, 2), "get": (1, 2), "index": (1, 2), "insert": (2, 2), "isalnum": (0, 0), "isalpha": (0, 0),
    "isdigit": (0, 0), "items": (0, 0), "join": (1, 1), "keys": (0, 0), "lower": (0, 0), "partition": (1, 1),
    "pop": (0, 2), "remove": (1, 1), "replace": (2, 2), "reverse": (0, 0), "setdefault": (1, 2),
    "split": (0, 1), "startswith": (1, 2), "strip": (0, 1), "update": (1, 1), "upper": (0, 0),
    "values": (0, 0), "add": (1, 1), "discard": (1, 1),
}
MODIFYING = (
    "append clear extend insert pop remove reverse setdefault update add discard sort"
).split()
READING = "get items keys values index count copy".split()
STATEMENTS = (
    ast.Module, ast.FunctionDef, ast.ClassDef, ast.ImportFrom, ast.Assign, ast.AugAssign, ast.If, ast.While,
    ast.For, ast.Return, ast.Break, ast.Continue, ast.Pass, ast.Raise, ast.Expr,
)
EXPRESSIONS = (
    ast.Constant, ast.Name, ast.Attribute, ast.Subscript, ast.Slice, ast.List, ast.Tuple, ast.Dict, ast.BinOp,
    ast.BoolOp, ast.UnaryOp, ast.Compare, ast.IfExp, ast.Call, ast.ListComp, ast.DictComp, ast.SetComp,
    ast.JoinedStr, ast.FormattedValue,
)
SIGNS = (
    ast.Add, ast.Sub, ast.Mult, ast.FloorDiv, ast.Mod, ast.And, ast.Or, ast.Not, ast.USub, ast.Eq, ast.NotEq,
    ast.Lt, ast.LtE, ast.Gt, ast.GtE, ast.In, ast.NotIn, ast.Is, ast.IsNot,
)
PARTS = (ast.arguments, ast.arg, ast.alias, ast.comprehension, ast.keyword, ast.Load, ast.Store)
BARRED_EVERYWHERE = "register mro elements open input law version_info with_traceback add_note".split()
BARRED_NAMES = (
    "attrgetter breakpoint builtins compile copyright credits delattr dir eval exec exit gc getattr globals "
    "hasattr help id importlib license locals methodcaller os quit setattr super type vars sys"
).split()
BARRED_WORDS = (
    "type typing typing_extensions enum Enum IntEnum StrEnum Flag IntFlag Generic Protocol ABC ABCMeta "
    "namedtuple NamedTuple TypedDict TYPE_CHECKING abstractmethod"
).split()
BARRED_PARTS = ("dataclass", "overload", "contextmanager")
BARRED_STARTS = (
    "_wall", "_pe_", "_dcw_", "_enum_", "_cm_", "_twin_re_", "_lay_", "_law_", "_stub_", "_sre", "_WallAttr"
)
BARRED_STEMS = ("_cold", "_tuplegetter", "_outside", "_record", "_written_out", "_member_names")
FRAMES = r"(f|tb|co|gi|cr|ag)_[a-z]+"
BARRED_FILES = ("test", "tests", "testing", "site", "conftest", "sitecustomize", "usercustomize")
OF_VALUES = {name for kind in (str, int, list, dict, set, bytes, tuple) for name in dir(kind)}


def is_call_of(node, *names):
    return isinstance(node, ast.Call) and isinstance(node.func, ast.Name) and node.func.id in names


def is_method_call(node, *names):
    return isinstance(node, ast.Call) and isinstance(node.func, ast.Attribute) and node.func.attr in names


def names_in(file):
    """Return all names of a file as (name, node, kind)."""
    found = []
    for node in file.nodes:
        if isinstance(node, ast.Name):
            found.append((node.id, node, "name"))
        elif isinstance(node, ast.arg):
            found.append((node.arg, node, "name"))
        elif isinstance(node, ast.Attribute):
            found.append((node.attr, node, "attribute"))
        elif isinstance(node, ast.FunctionDef):
            found.append((node.name, node, "method" if is_method(file, node) else "name"))
        elif isinstance(node, ast.ClassDef):
            found.append((node.name, node, "name"))
        elif isinstance(node, ast.alias):
            found.append((node.asname or node.name, node, "name"))
        elif isinstance(node, ast.keyword):
            found.append((node.arg or "", node, "keyword"))
    return found


def rule_1(package):
    for name in package.names:
        if not re.fullmatch(r"__init__\.py|[a-z][a-z0-9_]*\.py", name):
            yield None, None, f"no plain name: {name}"


def rule_2(package):
    for file in package.files:
        for node in file.all_of(ast.Import):
            yield file, node, "import without from"
        first = 0 if ast.get_docstring(file.tree) is None else 1
        for node in file.imports:
            if node not in file.tree.body[first:first + len(file.imports)]:
                yield file, node, "an import below the top"
            if node.level != 0 or not str(node.module).startswith(package.name + "."):
                yield file, node, "an import from elsewhere"
            if any(alias.name == "*" or alias.asname for alias in node.names):
                yield file, node, "a star or another name"


def rule_3(package):
    for file in package.files:
        functions = {}
        for at, node in enumerate(file.tree.body):
            if isinstance(node, ast.FunctionDef):
                functions[node.name] = True
            elif isinstance(node, ast.Assign):
                if len(node.targets) != 1 or not isinstance(node.targets[0], ast.Name):
                    yield file, node, "not one name"
                elif not is_plain(node.value, functions) or len(ast.unparse(node.value)) > 50000:
                    yield file, node, "no plain value"
            elif isinstance(node, ast.Expr):
                if at > 0 or not isinstance(node.value, ast.Constant) or not isinstance(node.value.value, str):
                    yield file, node, "an expression at module level"
            elif not isinstance(node, (ast.ImportFrom, ast.ClassDef)):
                yield file, node, "a statement at module level"


def is_plain(node, functions):
    """Return whether a value is one of plain kinds, perhaps with functions within."""
    if isinstance(node, ast.Constant):
        return node.value is None or isinstance(node.value, (int, str))
    if isinstance(node, ast.UnaryOp):
        return isinstance(node.op, ast.USub) and isinstance(node.operand, ast.Constant)
    if isinstance(node, ast.Name):
        return node.id in functions
    if isinstance(node, (ast.List, ast.Tuple)):
        return all(is_plain(part, functions) for part in node.elts)
    if isinstance(node, ast.Dict):
        return all(part is not None and is_plain(part, functions) for part in node.keys + node.values)
    return False


def has_list(node):
    return any(isinstance(part, (ast.List, ast.Dict)) for part in ast.walk(node))


def rule_4(package):
    for file in package.files:
        for node in file.functions:
            args = node.args
            if args.posonlyargs or args.kwonlyargs or args.vararg or args.kwarg:
                yield file, node, "parameters that are not plain"
            if not all(is_plain(value, {}) and not has_list(value) for value in args.defaults):
                yield file, node, "a default that is not plain"
            if node.decorator_list and not (is_method(file, node) and is_static(node)):
                yield file, node, "a decorator"
            if file.around(node, ast.FunctionDef):
                yield file, node, "a nested function"


def rule_5(package):
    for file in package.files:
        above = dict(file.imported)
        for node in file.tree.body:
            if not isinstance(node, ast.ClassDef):
                continue
            bases = [ast.unparse(base) for base in node.bases]
            if len(bases) > 1 or not all(base in above or base in ERRORS for base in bases):
                yield file, node, "other bases"
            if node.keywords or node.decorator_list:
                yield file, node, "a metaclass or a decorator"
            for part in node.body:
                is_docstring = isinstance(part, ast.Expr) and part.value in file.docstrings
                if not is_docstring and not isinstance(part, ast.FunctionDef):
                    yield file, part, "no method"
                if isinstance(part, ast.FunctionDef):
                    if re.fullmatch("__.*__", part.name) and part.name != "__init__":
                        yield file, part, "another double-underscore method"
                    if is_static(part) and part.name in package.attributes:
                        yield file, part, "a static method and an attribute"
            above[node.name] = True
        for node in file.classes:
            if node not in file.tree.body:
                yield file, node, "a class that is not at module level"


def rule_6(package):
    for file in package.files:
        for node in file.all_of(ast.stmt):
            if not isinstance(node, STATEMENTS):
                yield file, node, "another statement"
            if isinstance(node, ast.Expr) and not isinstance(node.value, ast.Call):
                if node.value not in file.docstrings:
                    yield file, node, "an expression as a statement"
            if isinstance(node, ast.AugAssign) and isinstance(node.target, ast.Subscript):
                if isinstance(node.target.slice, ast.Slice):
                    yield file, node, "a slice that is changed"
        for node in file.all_of(ast.Starred):
            yield file, node, "a star"


def rule_7(package):
    kinds = (ast.stmt,) + EXPRESSIONS + SIGNS + PARTS + (ast.Module,)
    for file in package.files:
        for node in file.nodes:
            if not isinstance(node, kinds):
                yield file, node, f"another expression: {type(node).__name__}"
            if isinstance(node, ast.Constant) and not isinstance(node.value, (int, str, type(None))):
                yield file, node, "a value of another kind"
            if isinstance(node, ast.Dict) and None in node.keys:
                yield file, node, "two stars"
            if isinstance(node, ast.FormattedValue):
                if node.format_spec is not None or node.conversion != -1:
                    yield file, node, "a format"
                if any(isinstance(part, (ast.JoinedStr, ast.Constant)) for part in ast.walk(node.value)):
                    yield file, node, "a literal within braces"
            if isinstance(node, ast.Call) and not isinstance(node.func, (ast.Name, ast.Attribute)):
                yield file, node, "a call of what has no name"
            if isinstance(node, ast.Subscript) and not isinstance(
                node.value, (ast.Name, ast.Attribute, ast.Subscript, ast.Call)
            ):
                yield file, node, "a literal with an index"
        for node in file.all_of(*COMPREHENSIONS):
            yield from comprehension_faults(file, node)


def comprehension_faults(file, node):
    function = file.around(node, ast.FunctionDef)
    if function is None:
        yield file, node, "a comprehension outside of functions"
    elif file.around(node, *COMPREHENSIONS):
        own = [part.id for part in ast.walk(node) if isinstance(part, ast.Name) and isinstance(part.ctx, ast.Store)]
        if any(local_names(function).count(name) > 1 for name in own):
            yield file, node, "a name of a comprehension within another one that is not fresh"
    if len(node.generators) > 6 or sum(len(part.ifs) for part in node.generators) > 12:
        yield file, node, "too long a comprehension"
    if any(part.is_async for part in node.generators):
        yield file, node, "async"


def rule_8(package):
    for file in package.files:
        for node in file.all_of(ast.Name):
            function = file.around(node, ast.FunctionDef)
            known = set(file.top_names()) | set(local_names(function) if function else [])
            if isinstance(node.ctx, ast.Load) and node.id not in known:
                if node.id not in CALLED + ERRORS and not is_decorator(file, node):
                    yield file, node, f"a name that is not bound: {node.id}"
        for name, node, kind in names_in(file):
            own = (ast.FunctionDef, ast.ClassDef, ast.arg, ast.alias)
            binds = isinstance(node, own) or isinstance(node, ast.Name) and not isinstance(node.ctx, ast.Load)
            if binds and name in CALLED + ERRORS:
                yield file, node, f"another meaning of {name}"
            if name.startswith("__") and name != "__init__":
                yield file, node, f"two underscores: {name}"
            if kind == "attribute" and name in ("format", "format_map", "mro"):
                yield file, node, f"an attribute {name}"


def is_decorator(file, node):
    function = file.above[node]
    return isinstance(function, ast.FunctionDef) and node in function.decorator_list and node.id == "staticmethod"


def rule_9(package):
    for file in package.files:
        if file.name == "__main__.py":
            yield file, None, "a program that reads and prints"
        for node in file.all_of(ast.Call):
            if is_call_of(node, "print", "input", "open"):
                yield file, node, "input or output"


def rule_10(package):
    for file in package.files:
        lines = file.text.split("\n")
        if len(lines) - (lines[-1] == "") > 399:
            yield file, None, "a long file"
        for line in lines:
            if len(line) > 120 or "\t" in line:
                yield file, None, "a long line or a tab"
        for node in file.functions:
            if node.end_lineno - node.lineno + 1 > 40:
                yield file, node, "a long function"


def rule_11(package):
    for file in package.files:
        for node in file.all_of(ast.For, ast.comprehension):
            if is_call_of(node.iter, "set") or isinstance(node.iter, (ast.Set, ast.SetComp)):
                yield file, node, "the order of a set"
        for node in file.all_of(ast.ExceptHandler):
            if node.name:
                yield file, node, "an error that is looked into"
        for node in file.all_of(ast.Call):
            if is_call_of(node, "id", "hash"):
                yield file, node, "what differs from run to run"


def rule_12(package):
    for file in package.files:
        if "_wall" in file.text or "_WallAttr" in file.text:
            yield file, None, "a barred word"
        for name, node, kind in names_in(file):
            plain = re.fullmatch(r"_?[A-Za-z][A-Za-z0-9_]*|_|__init__", name)
            stem = name.rstrip("0123456789_") in BARRED_STEMS
            if not plain or stem or kind != "attribute" and name.startswith(BARRED_STARTS):
                yield file, node, f"no plain name: {name}"
            if name == "_" and isinstance(node, ast.Name):
                if isinstance(node.ctx, ast.Load) or file.around(node, ast.FunctionDef) is None:
                    yield file, node, "_ that is read, or outside of functions"
            if isinstance(node, ast.ClassDef) and name.startswith("_"):
                yield file, node, "a class with an underscore"


def rule_13(package):
    for file in package.files:
        for node in file.all_of(ast.Set, ast.Lambda):
            yield file, node, "a set written as a literal, or a lambda"


def rule_14(package):
    if package.name in sys.stdlib_module_names:
        yield None, None, "the name of a standard module"
    if "__init__.py" not in package.names or len(package.names) > 100:
        yield None, None, "no __init__.py, or too many files"
    for file in package.files:
        stem = file.name[:-3]
        if stem in BARRED_FILES or stem.startswith(("law_", "test_")) or stem in dir(builtins):
            yield file, None, "a barred name"
        if stem in BARRED_WORDS or any(part in stem for part in BARRED_PARTS):
            yield file, None, "a barred name"
        if not all(character == "\n" or " " <= character <= "~" for character in file.text):
            yield file, None, "another character"
    strings = [node.value for file in package.files for node in file.strings() + file.docstrings]
    if sum(len(text) for text in strings) > 2000000:
        yield None, None, "too many strings"


def rule_15(package):
    for file in package.files:
        top = file.top_names()
        for name in top:
            if top.count(name) > 1:
                yield file, None, f"bound twice: {name}"
        for value in file.top_values().values():
            parts = [part for part in ast.walk(value) if isinstance(part, (ast.List, ast.Dict)) and part is not value]
            if parts:
                yield file, value, "a list or dict within another value"
        classes = [node.name for node in file.classes]
        for function in file.functions:
            for name in local_names(function):
                if name in classes or name in file.imported:
                    yield file, function, f"the name of a class or an import: {name}"
        for name, node, kind in names_in(file):
            stored = isinstance(node, ast.Name) and not isinstance(node.ctx, ast.Load)
            binds = stored or isinstance(node, (ast.arg, ast.alias, ast.ClassDef, ast.FunctionDef))
            if binds and kind == "name" and name in dir(builtins):
                yield file, node, f"the name of a builtin: {name}"
        for node in file.all_of(ast.Name):
            value = package.value_named(file, node.id)
            if isinstance(node.ctx, ast.Load) and isinstance(value, (ast.List, ast.Dict)) and not only_read(file, node):
                yield file, node, f"a table that is not only read: {node.id}"


def only_read(file, node):
    """Return whether a list or dict is used where it can only be read."""
    above = file.above[node]
    if isinstance(above, ast.Subscript):
        return above.value is node and isinstance(above.ctx, ast.Load)
    if isinstance(above, (ast.For, ast.comprehension)):
        return above.iter is node
    if isinstance(above, ast.Compare):
        return node in above.comparators
    if isinstance(above, ast.Attribute):
        return above.attr in READING and isinstance(file.above[above], ast.Call)
    return is_call_of(above, "len", "sorted", "list", "tuple", "dict", "min", "max", "sum", "any", "all", "enumerate")


def rule_16(package):
    needs = {}
    for file in package.files:
        needs[file.name] = []
        if file.name == "__init__.py" and file.top_names():
            yield file, None, "names in __init__.py"
        for node in file.imports:
            other = package.file_of(node.module or "")
            if other is None:
                yield file, node, "no such file"
                continue
            needs[file.name].append(other.name)
            for alias in node.names:
                if alias.name not in other.top_names() or alias.name in other.imported:
                    yield file, node, f"not defined there: {alias.name}"
    for name in needs:
        waiting = list(needs[name])
        reached = []
        while waiting:
            other = waiting.pop()
            if other not in reached:
                reached.append(other)
                waiting += needs[other]
        if name in reached:
            yield None, None, f"files that import each other: {name}"


def rule_17(package):
    for file in package.files:
        for name, node, kind in names_in(file):
            if name in BARRED_EVERYWHERE or re.fullmatch(FRAMES, name):
                yield file, node, f"a barred name: {name}"
            if kind in ("name", "method") and name in BARRED_NAMES:
                yield file, node, f"a barred name: {name}"
        words = [(name, node) for name, node, _ in names_in(file)]
        for node in file.strings():
            words += [(word, node) for word in re.findall(r"\w+", node.value)]
        for word, node in words:
            if word in BARRED_WORDS or any(part in word for part in BARRED_PARTS):
                yield file, node, f"a barred word: {word}"


def rule_18(package):
    for file in package.files:
        for node in file.all_of(ast.Name):
            if node.id in package.classes and isinstance(node.ctx, ast.Load) and not is_use_of_class(file, node):
                yield file, node, f"a class as a value: {node.id}"
        for node in file.all_of(ast.Attribute):
            if isinstance(node.ctx, ast.Store):
                name = node.value.id if isinstance(node.value, ast.Name) else None
                if name is None or name in file.top_names():
                    yield file, node, "an attribute that is not assigned through a local name"
            elif not is_called(file, node) and node.attr not in package.attributes:
                yield file, node, f"an attribute that no class assigns: {node.attr}"
        for node in file.classes:
            names = [part.name for part in node.body if isinstance(part, ast.FunctionDef)]
            for name in names:
                if names.count(name) > 1 or name in package.attributes:
                    yield file, node, f"defined twice, or an attribute, too: {name}"
            if any(ast.unparse(base) in ("StopIteration", "AttributeError") for base in node.bases):
                yield file, node, "a barred base"


def is_called(file, node):
    above = file.above[node]
    return isinstance(above, ast.Call) and above.func is node


def is_use_of_class(file, node):
    above = file.above[node]
    if isinstance(above, ast.Call):
        return above.func is node or is_call_of(above, "isinstance") and above.args[1] is node
    if isinstance(above, ast.Attribute):
        methods = above.attr == "__init__" or above.attr[0] != "_"
        return methods and is_called(file, above)
    return isinstance(above, ast.ClassDef) and node in above.bases


def rule_19(package):
    for file in package.files:
        for node in file.all_of(ast.Try):
            yield file, node, "a try"
        for node in file.all_of(ast.Raise):
            made = node.exc
            if not isinstance(made, ast.Call) or node.cause is not None:
                yield file, node, "an error that is not created on the spot"
            elif not isinstance(made.func, ast.Name) or made.func.id not in package.classes:
                yield file, node, "an error that is not the package's own"


def rule_20(package):
    for file in package.files:
        for node in file.all_of(ast.Compare):
            for sign, other in zip(node.ops, node.comparators):
                if isinstance(sign, (ast.Is, ast.IsNot)):
                    if not isinstance(other, ast.Constant) or not isinstance(other.value, (bool, type(None))):
                        yield file, node, "is with another value"


def rule_21(package):
    for file in package.files:
        for node in file.all_of(ast.AnnAssign):
            yield file, node, "an annotation"
        for node in file.all_of(ast.arg):
            if node.annotation is not None:
                yield file, node, "an annotation"
        for node in file.functions:
            if node.returns is not None:
                yield file, node, "an annotation"


def rule_22(package):
    keywords = {"sorted": ("reverse",), "min": ("default",), "max": ("default",), "sum": ("start",)}
    for file in package.files:
        for node in file.all_of(ast.Call):
            name = node.func.id if isinstance(node.func, ast.Name) else None
            for keyword in node.keywords:
                if keyword.arg not in keywords.get(name, ()):
                    yield file, node, f"a keyword: {keyword.arg}"
                if keyword.arg == "default" and len(node.args) != 1:
                    yield file, node, "default beside several arguments"
            if not fits_call(package, file, node):
                yield file, node, "another number of arguments"
        for node in file.all_of(ast.Name):
            if node.id in CALLED and node.id not in file.top_names() and not is_called(file, node):
                above = file.above[node]
                within = file.above[above] if isinstance(above, ast.Tuple) else above
                if not is_call_of(within, "isinstance"):
                    yield file, node, f"a builtin as a value: {node.id}"


def fits_call(package, file, node):
    """Return whether a call passes as many arguments as what it calls takes."""
    many = len(node.args)
    if isinstance(node.func, ast.Attribute):
        name = node.func.attr
        if name == "__init__":
            init = package.init_of(ast.unparse(node.func.value))
            return init is None or takes(init, many)
        methods = package.methods.get(name, [])
        if methods:
            return any(takes(method, many + (not is_static(method))) for method in methods)
        least, greatest = METHODS.get(name, (0, 99))
        return least <= many <= greatest
    if not isinstance(node.func, ast.Name):
        return True
    name = node.func.id
    if name in package.classes:
        init = package.init_of(name)
        if init is None:
            return many == (1 if package.classes[name].bases else 0)
        return takes(init, many + 1)
    function = package.function_called(file, name)
    return function is None or takes(function, many)


def takes(function, many):
    names = parameters(function)
    return len(names) - len(function.args.defaults) <= many <= len(names)


def rule_23(package):
    makers = ("zip", "enumerate", "reversed", "range")
    takers = ("list", "tuple", "dict", "sorted", "sum", "min", "max", "any", "all", "enumerate", "zip")
    for file in package.files:
        for node in file.all_of(ast.Call):
            if is_call_of(node, *makers) or is_method_call(node, "items", "keys", "values"):
                above = file.above[node]
                iterated = isinstance(above, (ast.For, ast.comprehension)) and above.iter is node
                if not iterated and not is_call_of(above, *takers):
                    yield file, node, "not iterated at once"
        for node in file.all_of(ast.For):
            for part in node.body:
                yield from modifications(file, node.iter, part)
        for node in file.all_of(*COMPREHENSIONS):
            for part in node.generators:
                yield from modifications(file, part.iter, node)
        for node in file.all_of(ast.Yield, ast.YieldFrom, ast.GeneratorExp):
            yield file, node, "a generator"


def iterated_texts(node):
    """Return what an expression iterates over, as texts."""
    if is_method_call(node, "items", "keys", "values"):
        return iterated_texts(node.func.value)
    if is_call_of(node, "zip", "enumerate", "reversed"):
        return [text for part in node.args for text in iterated_texts(part)]
    if isinstance(node, (ast.IfExp, ast.BoolOp)):
        parts = node.values if isinstance(node, ast.BoolOp) else [node.body, node.orelse]
        return [text for part in parts for text in iterated_texts(part)]
    return [ast.unparse(node)] if isinstance(node, (ast.Name, ast.Attribute, ast.Subscript)) else []


def modifications(file, iterated, body):
    """Find what a loop changes of what it goes over."""
    texts = iterated_texts(iterated)
    for node in ast.walk(body):
        if is_method_call(node, *MODIFYING) and ast.unparse(node.func.value) in texts:
            yield file, node, "a loop that changes what it goes over"
        changed = isinstance(node, ast.Subscript) and not isinstance(node.ctx, ast.Load)
        if changed and ast.unparse(node.value) in texts:
            yield file, node, "a loop that changes what it goes over"
        if isinstance(node, ast.AugAssign) and ast.unparse(node.target) in texts:
            yield file, node, "a loop that changes what it goes over"


def is_set(node):
    return is_call_of(node, "set") or isinstance(node, ast.SetComp)


def rule_24(package):
    for file in package.files:
        for node in file.nodes:
            if not is_set(node):
                continue
            above = file.above[node]
            if is_call_of(node, "set") and node.args and is_set(node.args[0]):
                yield file, node, "a set of a set"
            if isinstance(above, ast.Assign):
                yield from stored_set_faults(file, above)
            elif not is_membership(above, node) and not (is_call_of(above, "sorted", "len") and not above.keywords):
                yield file, node, "a set at another place"


def is_membership(above, node):
    return isinstance(above, ast.Compare) and node in above.comparators and isinstance(above.ops[0], (ast.In, ast.NotIn))


def stored_set_faults(file, assign):
    function = file.around(assign, ast.FunctionDef)
    if len(assign.targets) != 1 or not isinstance(assign.targets[0], ast.Name) or function is None:
        yield file, assign, "a set that is not assigned to one local name"
        return
    name = assign.targets[0].id
    if local_names(function).count(name) > 1:
        yield file, assign, f"a set that is assigned twice: {name}"
    for node in ast.walk(function):
        if isinstance(node, ast.Name) and node.id == name and isinstance(node.ctx, ast.Load):
            above = file.above[node]
            if isinstance(above, ast.Attribute):
                good = above.attr in ("add", "discard") and isinstance(file.above[file.above[above]], ast.Expr)
            elif isinstance(above, (ast.If, ast.While)):
                good = above.test is node
            else:
                good = is_membership(above, node) or is_call_of(above, "len", "sorted") and not above.keywords
            if not good:
                yield file, node, f"another use of a set: {name}"


def rule_25(package):
    for file in package.files:
        for node in file.all_of(ast.Attribute):
            if is_called(file, node):
                if node.attr not in METHODS and node.attr not in package.methods:
                    yield file, node, f"another method: {node.attr}"
                if file.above[node].keywords:
                    yield file, node, f"a keyword of a method: {node.attr}"
            elif node.attr in METHODS or node.attr in package.methods:
                yield file, node, f"a method that is not called: {node.attr}"


def rule_26(package):
    for name in list(package.methods) + list(package.attributes):
        if name in OF_VALUES and name != "__init__":
            yield None, None, f"the name of a builtin value's method or attribute: {name}"


def rule_27(package):
    for file in package.files:
        for node in file.all_of(ast.Pow):
            yield file, node, "an exponent"
        for node in file.all_of(ast.Call):
            if is_call_of(node, "chr", "pow"):
                yield file, node, "chr or pow"
        for node in file.strings():
            text = node.value
            if "%" in text or text.endswith(("._", ".__")) or re.fullmatch(r"__.*__", text, re.DOTALL):
                yield file, node, "a barred string"
            if re.search(r"\b__", text) or re.fullmatch(FRAMES, text):
                yield file, node, "a barred string"
        for token in tokenize.generate_tokens(io.StringIO(file.text).readline):
            if token.type == tokenize.NUMBER and len(token.string) > 900:
                yield file, None, "a long number"
            if token.type == tokenize.STRING or tokenize.tok_name[token.type].startswith("FSTRING"):
                if re.search(r"\\[^nt\\'\"]", token.string.replace("\\\\", "")):
                    yield file, None, "an escape"
        with warnings.catch_warnings(record=True) as caught:
            warnings.simplefilter("always")
            compile(file.text, file.name, "exec")
        if caught:
            yield file, None, "a line that Python warns of"


def rule_28(package):
    for file in package.files:
        for node in file.functions:
            if node.name.startswith("__") and not is_method(file, node):
                yield file, node, "a double-underscore function"
            if node.name == "__init__" and any(isinstance(part, ast.Return) for part in ast.walk(node)):
                yield file, node, "an __init__ that returns"
        for node in file.all_of(ast.Attribute):
            if node.attr == "__init__":
                function = file.around(node, ast.FunctionDef)
                call = file.above[node]
                good = function is not None and function.name == "__init__" and is_called(file, node)
                if not good or not call.args or ast.unparse(call.args[0]) != parameters(function)[0]:
                    yield file, node, "an __init__ that is called elsewhere"


RULES = (
    rule_1, rule_2, rule_3, rule_4, rule_5, rule_6, rule_7, rule_8, rule_9, rule_10, rule_11, rule_12, rule_13,
    rule_14, rule_15, rule_16, rule_17, rule_18, rule_19, rule_20, rule_21, rule_22, rule_23, rule_24, rule_25,
    rule_26, rule_27, rule_28,
)


def faults(package):
    """Return where a package breaks rules, as (rule, file, line, words)."""
    found = []
    for number, rule in enumerate(RULES, 1):
        for file, node, words in rule(package):
            name = file.name if file else "the package"
            found.append((f"L{number}", name, getattr(node, "lineno", 0), words))
    return found

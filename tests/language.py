"""What a script can see of the rules L1 to L28: each check gives a list of texts about what is wrong.

Where a rule has exceptions that this package does not need, the check is stricter than the rule.
"""

import ast
import builtins
import os
import re
import sys

from helpers import PACKAGE

BUILTINS = set("""len range enumerate zip min max sum abs sorted reversed int str bool list tuple dict set isinstance ord
    repr any all divmod pow super property classmethod ValueError TypeError KeyError NotImplementedError NotImplemented""".split())
OPERATORS = set("""__lt__ __le__ __gt__ __ge__ __ne__ __add__ __sub__ __mul__ __floordiv__ __mod__ __pow__ __and__ __or__
    __xor__ __lshift__ __rshift__ __radd__ __rsub__ __rmul__ __rand__ __ror__ __rxor__ __iadd__ __isub__ __imul__
    __iand__ __ior__ __ixor__""".split())
ALONE = {"__neg__", "__pos__", "__invert__", "__abs__", "__bool__", "__len__", "__str__", "__repr__", "__iter__",
         "__enter__"}
PLACED = {"__contains__": ["self", "x"], "__getitem__": ["self", "at"], "__setitem__": ["self", "at", "worth"],
          "__eq__": ["self", "other"], "__exit__": ["self", "kind", "value", "trace"]}
CHANGING = {"__iadd__", "__isub__", "__imul__", "__iand__", "__ior__", "__ixor__", "__setitem__"}
METHODS = set("""append clear copy count endswith extend find get index insert isalnum isalpha isdigit islower isspace
    isupper items join keys ljust lower lstrip partition pop remove replace reverse rfind rjust rpartition rsplit rstrip
    setdefault split splitlines startswith strip update upper values zfill bit_length removeprefix removesuffix""".split())
MODIFYING = set("append clear extend insert pop remove reverse setdefault update add discard".split())
BARRED = set("""register mro elements open input law version_info with_traceback add_note""".split())
BARRED_NAMES = set("""attrgetter breakpoint builtins compile copyright credits delattr dir eval exec exit gc getattr globals
    hasattr help id importlib license locals methodcaller os quit setattr type vars sys""".split())
BARRED_WORDS = set("""type typing typing_extensions enum Enum IntEnum StrEnum Flag IntFlag Generic Protocol ABC ABCMeta
    namedtuple NamedTuple TypedDict TYPE_CHECKING abstractmethod""".split())
STATEMENTS = (ast.Assign, ast.AugAssign, ast.If, ast.While, ast.For, ast.Return, ast.Break, ast.Continue, ast.Pass,
              ast.Raise, ast.Assert, ast.Delete, ast.With, ast.Expr, ast.FunctionDef, ast.ClassDef, ast.ImportFrom)
SCOPES = (ast.FunctionDef, ast.Lambda, ast.AsyncFunctionDef)
ITERATED = {"zip", "enumerate", "reversed", "range"}
TAKING = {"list", "tuple", "dict", "sorted", "sum", "any", "all", "enumerate", "zip", "min", "max"}


class File:
    """A file of the package with its tree."""

    def __init__(self, name):
        self.name = name
        with open(os.path.join(PACKAGE, name), "rb") as file:
            self.raw = file.read()
        self.text = self.raw.decode("utf-8")
        self.tree = tree_of(self.text)

    def nodes(self, *kinds):
        return [node for node in ast.walk(self.tree) if isinstance(node, kinds)]

    def says(self, node, text):
        return f"{self.name}:{getattr(node, 'lineno', 0)}: {text}"


def tree_of(text):
    """The tree of a text; each node knows what stands around it."""
    tree = ast.parse(text)
    for node in ast.walk(tree):
        for child in ast.iter_child_nodes(node):
            child.above = node
    return tree


def package_files():
    return [File(name) for name in sorted(os.listdir(PACKAGE)) if name.endswith(".py")]


def functions_of(file):
    return file.nodes(ast.FunctionDef)


def class_of(function):
    return function.above if isinstance(function.above, ast.ClassDef) else None


def is_docstring(node):
    return isinstance(node, ast.Expr) and isinstance(node.value, ast.Constant) and isinstance(node.value.value, str)


def names_of(function):
    """The parameters of a function."""
    told = function.args
    named = told.posonlyargs + told.args + told.kwonlyargs + [one for one in (told.vararg, told.kwarg) if one]
    return [one.arg for one in named]


def bound_in(function):
    """All names that a function binds."""
    found = set(names_of(function))
    for node in ast.walk(function):
        if isinstance(node, ast.Name) and isinstance(node.ctx, (ast.Store, ast.Del)):
            found.add(node.id)
    return found


def is_plain(node):
    """Whether a default value is plain."""
    if isinstance(node, ast.Tuple):
        return all(is_plain(part) for part in node.elts)
    if isinstance(node, ast.UnaryOp) and isinstance(node.op, ast.USub):
        node = node.operand
    return isinstance(node, ast.Constant) and isinstance(node.value, (int, str, type(None)))


def is_generator(function):
    return any(isinstance(node, (ast.Yield, ast.YieldFrom)) for node in ast.walk(function))


def check_folder():
    """L1, L14: only .py files with plain names that no module of the standard library has."""
    found = []
    for name in os.listdir(PACKAGE):
        if name == "__pycache__":
            continue
        stem = name[:-3]
        if not re.fullmatch(r"[a-z][a-z0-9_]*\.py|__init__\.py", name):
            found.append(f"{name}: no plain name")
        barred = BARRED | BARRED_NAMES | {"site", "test", "tests", "testing", "conftest"}
        if stem != "__init__" and hasattr(builtins, stem) or stem in barred:
            found.append(f"{name}: such a name is not used")
    if os.path.basename(PACKAGE) in sys.stdlib_module_names:
        found.append("the package has the name of a module of the standard library")
    return found


def check_characters(file):
    """L10, L14: sizes of files and lines, and plain characters."""
    found = []
    lines = file.text.split("\n")
    if len(file.text.splitlines()) > 399:
        found.append(f"{file.name}: too long")
    for at, line in enumerate(lines):
        if len(line) > 120:
            found.append(f"{file.name}:{at + 1}: a long line")
    if any(byte != 10 and not 32 <= byte <= 126 for byte in file.raw):
        found.append(f"{file.name}: a character that is not plain")
    return found


def check_words(file):
    """L12, L17: barred words, and words that frames have."""
    found = []
    code = ast.unparse(without_docstrings(file.text))
    for word in re.findall(r"[A-Za-z_][A-Za-z0-9_]*", code):
        if word in BARRED_WORDS or re.search("dataclass|overload|contextmanager", word):
            found.append(f"{file.name}: the word {word}")
        if word.startswith(("_wall", "_pe_", "_dcw_", "_enum_", "_cm_", "_twin_re_", "_lay_", "_law_", "_stub_", "_sre")):
            found.append(f"{file.name}: the word {word}")
        if re.fullmatch("(f|tb|co|gi|cr|ag)_[a-z]+", word):
            found.append(f"{file.name}: the word {word}")
    if re.search(r"_wall|_WallAttr|\(type\)|Meta|metaclass=", file.text):
        found.append(f"{file.name}: a barred word")
    return found


def without_docstrings(text):
    tree = ast.parse(text)
    for node in ast.walk(tree):
        if isinstance(node, (ast.Module, ast.ClassDef, ast.FunctionDef)) and is_docstring(node.body[0]):
            node.body[0] = ast.copy_location(ast.Pass(), node.body[0])
    return tree


def check_imports(file):
    """L2, L16: only from the very file of the package that defines the name, and at the top."""
    found = []
    ended = False
    for node in file.tree.body:
        if isinstance(node, ast.ImportFrom):
            if ended:
                found.append(file.says(node, "an import that is not at the top"))
            if node.level or not (node.module or "").startswith("rowgames."):
                found.append(file.says(node, "an import from outside"))
                continue
            other = File(node.module[len("rowgames."):] + ".py")
            defined = {one.name for one in other.tree.body if isinstance(one, (ast.FunctionDef, ast.ClassDef))}
            defined |= {one.targets[0].id for one in other.tree.body if isinstance(one, ast.Assign)}
            for alias in node.names:
                if alias.asname or alias.name not in defined:
                    found.append(file.says(node, f"{alias.name} is not defined there"))
        elif not is_docstring(node):
            ended = True
    for node in file.nodes(ast.Import):
        found.append(file.says(node, "an import of a module"))
    for node in file.nodes(ast.ImportFrom):
        if node not in file.tree.body:
            found.append(file.says(node, "an import that is not at the top"))
    return found


def check_cycles(files):
    """L16: no two files import from each other."""
    goes = {file.name: {node.module.split(".")[1] + ".py" for node in file.nodes(ast.ImportFrom)} for file in files}
    reach = {name: set(led) for name, led in goes.items()}
    for _ in files:
        reach = {name: led.union(*(reach[one] for one in led)) for name, led in reach.items()}
    return [f"{name}: imports itself" for name, led in reach.items() if name in led]


def check_module_level(file):
    """L3, L15: what stands at module level, and that each name is bound once."""
    found, bound = [], []
    for at, node in enumerate(file.tree.body):
        if isinstance(node, ast.ImportFrom):
            bound += [alias.name for alias in node.names]
        elif isinstance(node, (ast.FunctionDef, ast.ClassDef)):
            bound.append(node.name)
        elif isinstance(node, ast.Assign) and len(node.targets) == 1 and isinstance(node.targets[0], ast.Name):
            if not is_plain(node.value) and not is_table(node.value, bound):
                found.append(file.says(node, "a value that is not plain"))
            bound.append(node.targets[0].id)
            if isinstance(node.value, ast.Dict):
                found += check_table_read(file, node.targets[0].id)
        elif not (at == 0 and is_docstring(node)):
            found.append(file.says(node, "this does not stand at module level"))
    found += [f"{file.name}: {name} is bound twice" for name in set(bound) if bound.count(name) > 1]
    used = {node.id for node in file.nodes(ast.Name)} | {node.attr for node in file.nodes(ast.Attribute)}
    for node in file.nodes(ast.ImportFrom):
        found += [file.says(node, f"{alias.name} is not used") for alias in node.names if alias.name not in used]
    taken = {alias.name for node in file.nodes(ast.ImportFrom) for alias in node.names}
    taken |= {node.name for node in file.nodes(ast.ClassDef)}
    for function in functions_of(file):
        found += [file.says(function, f"{name} is a class or an import") for name in bound_in(function) & taken]
    return found


def is_table(node, bound):
    """Whether a value is a dict of plain values and of functions that are defined above it."""
    if not isinstance(node, ast.Dict) or not all(isinstance(key, ast.Constant) for key in node.keys):
        return False
    return all(is_plain(one) or (isinstance(one, ast.Name) and one.id in bound) for one in node.values)


def check_table_read(file, name):
    """L3, L15: a table at module level is only indexed and tested by in; what comes of it is given a name first."""
    found = []
    for node in file.nodes(ast.Name):
        if node.id != name or isinstance(node.ctx, ast.Store):
            continue
        above = node.above
        indexed = isinstance(above, ast.Subscript) and above.value is node and isinstance(above.above, ast.Assign)
        tested = isinstance(above, ast.Compare) and isinstance(above.ops[0], (ast.In, ast.NotIn))
        if not indexed and not tested:
            found.append(file.says(node, f"{name} is not only read"))
    return found


def check_names(file):
    """L8, L12, L15, L17: names that are bound, and builtins that are used."""
    found, bound = [], set()
    for function in functions_of(file):
        bound |= bound_in(function) | {function.name}
    bound |= {node.name for node in file.nodes(ast.ClassDef)}
    bound |= {node.targets[0].id for node in file.tree.body if isinstance(node, ast.Assign)}
    attributes = {node.attr for node in file.nodes(ast.Attribute)}
    for name in bound:
        dunder = re.fullmatch("__[a-z]+__", name)
        if not re.fullmatch("_?[A-Za-z][A-Za-z0-9_]*|_", name) and not dunder:
            found.append(f"{file.name}: the name {name}")
        if not dunder and hasattr(builtins, name) or name in BARRED | BARRED_NAMES:
            found.append(f"{file.name}: {name} is the name of something else")
    for name in attributes:
        if name in BARRED | {"format", "format_map", "args", "sort", "encode", "decode"}:
            found.append(f"{file.name}: the attribute {name}")
    for node in file.nodes(ast.Name):
        if node.id == "_" and isinstance(node.ctx, ast.Load):
            found.append(file.says(node, "_ is read"))
        if hasattr(builtins, node.id) and node.id not in BUILTINS:
            found.append(file.says(node, f"the builtin {node.id}"))
    return found


def check_functions(file):
    """L4, L10, L21: sizes, decorators, default values, no annotations, no nested functions."""
    found = []
    for function in functions_of(file):
        if function.end_lineno - function.lineno + 1 > 40:
            found.append(file.says(function, "a long function"))
        if function.returns or any(one.annotation for one in ast.walk(function) if isinstance(one, ast.arg)):
            found.append(file.says(function, "an annotation"))
        defaults = function.args.defaults + [one for one in function.args.kw_defaults if one]
        if not all(is_plain(one) for one in defaults):
            found.append(file.says(function, "a default value that is not plain"))
        decorators = [ast.unparse(one) for one in function.decorator_list]
        if decorators and (class_of(function) is None or decorators not in (["property"], ["classmethod"])):
            found.append(file.says(function, "a decorator"))
        if not isinstance(function.above, (ast.Module, ast.ClassDef)):
            found.append(file.says(function, "a nested function"))
    for node in file.nodes(ast.ClassDef):
        if node.decorator_list or node.keywords:
            found.append(file.says(node, "a decorator or a keyword of a class"))
        if not isinstance(node.above, ast.Module):
            found.append(file.says(node, "a class that is not at module level"))
    return found


def check_classes(file):
    """L5, L18, L28: what a class has, and the double-underscore methods."""
    found = []
    for node in file.nodes(ast.ClassDef):
        methods = [one for one in node.body if isinstance(one, ast.FunctionDef)]
        named = {one.name: one for one in methods}
        if len(named) < len(methods):
            found.append(file.says(node, "a method twice"))
        for one in node.body:
            value = isinstance(one, ast.Assign) and isinstance(one.targets[0], ast.Name) and is_plain(one.value)
            if one not in methods and not is_docstring(one) and not value:
                found.append(file.says(one, "this does not stand in a class"))
        if "__getitem__" in named and "__iter__" not in named:
            found.append(file.says(node, "no __iter__ beside __getitem__"))
        stored = {one.attr for one in ast.walk(node) if isinstance(one, ast.Attribute)
                  and isinstance(one.ctx, ast.Store) and isinstance(one.value, ast.Name) and one.value.id == "self"}
        found += [file.says(node, f"{name} is a method and an attribute") for name in stored & set(named)]
        for one in methods:
            found += check_double(file, one)
    return found


def check_double(file, function):
    """L5, L28: a method, if it has a double-underscore name."""
    name, params = function.name, names_of(function)
    plain = not function.args.defaults and not function.args.kwonlyargs and not function.args.vararg
    if not name.startswith("__"):
        return []
    returns = [node.value for node in ast.walk(function) if isinstance(node, ast.Return)]
    if name == "__init__":
        return [file.says(function, "__init__ returns")] if returns else []
    if name == "__call__":
        return [file.says(function, "__call__ with stars")] if function.args.vararg or function.args.kwonlyargs else []
    wanted = PLACED.get(name) or (["self"] if name in ALONE else ["self", "other"] if name in OPERATORS else None)
    found = []
    if wanted is None or params != wanted or not plain or is_generator(function):
        found.append(file.says(function, f"{name} with {params}"))
    if name in ("__len__", "__str__", "__repr__", "__bool__") and not isinstance(function.body[-1], ast.Return):
        found.append(file.says(function, f"{name} does not end with a return"))
    if name == "__len__":
        found += [file.says(function, "__len__ returns no len") for one in returns
                  if not (isinstance(one, ast.Call) and ast.unparse(one.func) == "len")]
    if name in ("__str__", "__repr__"):
        found += [file.says(function, f"{name} returns no text") for one in returns if not is_text(one)]
    return found


def is_text(node):
    if isinstance(node, ast.JoinedStr):
        return True
    return isinstance(node, ast.Call) and ast.unparse(node.func) in ("str", "repr")


def check_statements(file):
    """L6, L7, L13, L19, L20, L27: the statements and expressions that there are."""
    found = []
    barred = (ast.Try, ast.Lambda, ast.GeneratorExp, ast.NamedExpr, ast.Await, ast.Global, ast.Nonlocal, ast.Set,
              ast.SetComp, ast.Match, ast.Import, ast.AnnAssign)
    for node in ast.walk(file.tree):
        if isinstance(node, ast.stmt) and not isinstance(node, STATEMENTS):
            found.append(file.says(node, "no such statement"))
        if isinstance(node, barred):
            found.append(file.says(node, f"no {type(node).__name__} is needed"))
        if isinstance(node, ast.Constant) and isinstance(node.value, (float, complex, bytes)):
            found.append(file.says(node, "a value of another kind"))
        if isinstance(node, ast.Constant) and isinstance(node.value, str) and "%" in node.value:
            found.append(file.says(node, "a percent sign"))
        if isinstance(node, ast.BinOp) and isinstance(node.op, (ast.Div, ast.MatMult)):
            found.append(file.says(node, "a sign that is not needed"))
        if isinstance(node, ast.BinOp) and isinstance(node.op, ast.Pow):
            found += check_power(file, node)
        if isinstance(node, ast.AugAssign):
            found.append(file.says(node, "an assignment in place"))
        if isinstance(node, ast.Compare):
            found += check_is(file, node)
        if isinstance(node, ast.Raise):
            found += check_raise(file, node)
        if isinstance(node, ast.Expr) and not is_docstring(node):
            if not isinstance(node.value, (ast.Call, ast.Yield, ast.YieldFrom)):
                found.append(file.says(node, "an expression alone"))
        if isinstance(node, (ast.Yield, ast.YieldFrom)) and not isinstance(node.above, ast.Expr):
            found.append(file.says(node, "a yield that is no statement"))
        if isinstance(node, ast.Starred) and not isinstance(node.value, (ast.Name, ast.Attribute)):
            found.append(file.says(node, "a star before what is no name"))
    return found


def check_power(file, node):
    """L3, L27: in functions, an exponent that is written out."""
    above = node
    while not isinstance(above, SCOPES + (ast.Module,)):
        above = above.above
    if isinstance(node.right, ast.Constant) and 0 <= node.right.value <= 64 and isinstance(above, ast.FunctionDef):
        return []
    return [file.says(node, "an exponent that is not written out")]


def check_is(file, node):
    for sign, right in zip(node.ops, node.comparators):
        if isinstance(sign, (ast.Is, ast.IsNot)):
            if not (isinstance(right, ast.Constant) and right.value in (None, True, False)):
                return [file.says(node, "is beside a value")]
    return []


def check_raise(file, node):
    """L19: an error is created on the spot by the name of its class."""
    found = []
    for part in [node.exc] + ([node.cause] if node.cause else []):
        if not (isinstance(part, ast.Call) and isinstance(part.func, ast.Name) and part.func.id[0].isupper()):
            found.append(file.says(node, "an error that is not created on the spot"))
    return found


def check_classes_used(file, classes):
    """L18, L22: a class is called, a base, or stands in isinstance, or is asked for a value or class method."""
    found = []
    for node in file.nodes(ast.Name):
        if node.id not in classes:
            continue
        above = node.above
        called = isinstance(above, ast.Call) and above.func is node
        tested = isinstance(above, ast.Call) and ast.unparse(above.func) == "isinstance" and above.args[1] is node
        if not (called or tested or isinstance(above, (ast.ClassDef, ast.Attribute))):
            found.append(file.says(node, f"the class {node.id} is passed on"))
    return found


def check_calls(file, own):
    """L22, L24, L25: methods of builtin values, keywords of builtins, and where a set stands."""
    found = []
    for node in file.nodes(ast.Call):
        keywords = {one.arg for one in node.keywords}
        if isinstance(node.func, ast.Attribute):
            if node.func.attr not in METHODS | own and not node.func.attr.startswith("__"):
                found.append(file.says(node, f"the method {node.func.attr}"))
            if node.func.attr in METHODS and keywords:
                found.append(file.says(node, "a keyword of a method of a builtin value"))
        elif isinstance(node.func, ast.Name) and node.func.id in BUILTINS:
            if keywords - {"min": {"default"}, "max": {"default"}, "sorted": {"key"}}.get(node.func.id, set()):
                found.append(file.says(node, "a keyword of a builtin"))
            if node.func.id == "set":
                above = node.above
                if not (isinstance(above, ast.Call) and ast.unparse(above.func) in ("len", "sorted")):
                    found.append(file.says(node, "a set that is kept"))
            if node.func.id == "isinstance":
                found += check_isinstance(file, node)
            if node.func.id in ("sorted", "min", "max"):
                found += check_sorted(file, node)
    return found


def check_isinstance(file, node):
    kinds = node.args[1].elts if isinstance(node.args[1], ast.Tuple) else [node.args[1]]
    if all(isinstance(kind, ast.Name) and (kind.id in ("int", "str", "bool", "list", "tuple", "dict")
                                           or kind.id[0].isupper()) for kind in kinds):
        return []
    return [file.says(node, "isinstance of another kind")]


def check_sorted(file, node):
    """L5: as Machines compare, only what is plainly numbers or strings is sorted."""
    first = node.args[0]
    plain = isinstance(first, ast.ListComp) and isinstance(first.elt, ast.Call) \
        and ast.unparse(first.elt.func) in ("int", "str", "len")
    keys = [ast.unparse(one.value) for one in node.keywords if one.arg == "key"]
    plain = plain or isinstance(first, ast.Call) and ast.unparse(first.func) == "set" and not node.keywords
    # Of two values one that is written out is enough.
    beside = len(node.args) == 2 and isinstance(first, ast.Constant)
    if plain or beside or keys and keys[0] in ("int", "str", "len"):
        return []
    return [file.says(node, "this is not plainly numbers or strings")]


def check_iterated(file, generators):
    """L23: zip and the like, views, and calls of generators are iterated at once."""
    found = []
    for node in file.nodes(ast.Call):
        name = node.func.attr if isinstance(node.func, ast.Attribute) else ast.unparse(node.func)
        view = isinstance(node.func, ast.Attribute) and name in ("items", "keys", "values")
        if not (view or name in generators or (isinstance(node.func, ast.Name) and name in ITERATED)):
            continue
        above = node.above
        looped = isinstance(above, (ast.For, ast.comprehension)) and above.iter is node
        looped = looped or isinstance(above, ast.YieldFrom)
        taken = isinstance(above, ast.Call) and isinstance(above.func, ast.Name) and above.func.id in TAKING
        if not looped and not taken:
            found.append(file.says(node, f"{name} is not iterated at once"))
    return found


def check_changed_in_loops(file):
    """L23: what a loop goes over is not changed in the loop."""
    found = []
    for loop in file.nodes(ast.For):
        over = {ast.unparse(node) for node in ast.walk(loop.iter) if isinstance(node, (ast.Name, ast.Attribute))}
        for node in [one for part in loop.body for one in ast.walk(part)]:
            target = None
            if isinstance(node, ast.Call) and isinstance(node.func, ast.Attribute) and node.func.attr in MODIFYING:
                target = node.func.value
            elif isinstance(node, ast.Subscript) and isinstance(node.ctx, (ast.Store, ast.Del)):
                target = node.value
            while isinstance(target, ast.Subscript):
                target = target.value
            if target is not None and ast.unparse(target) in over:
                found.append(file.says(node, f"{ast.unparse(target)} is changed in its loop"))
    return found


def check_generators(files):
    """L23: nothing but generators has the name of a generator, and no attribute has it."""
    functions = [function for file in files for function in functions_of(file)]
    generators = {function.name for function in functions if is_generator(function)}
    found = [f"{one.name} is also no generator" for one in functions
             if one.name in generators and not is_generator(one)]
    for function in functions:
        if is_generator(function) and (function.decorator_list or function.name.startswith("__")):
            found.append(f"{function.name} yields")
    stored = {node.attr for file in files for node in file.nodes(ast.Attribute) if isinstance(node.ctx, ast.Store)}
    found += [f"{name} is a generator and an attribute" for name in stored & generators]
    return generators, found


def check_shared_names(files):
    """L5, L18: names of properties and class methods are those of nothing else; attributes are assigned."""
    methods, properties, made, stored, values = set(), set(), set(), set(), set()
    read = {}
    for file in files:
        for function in functions_of(file):
            if class_of(function):
                decorators = [ast.unparse(one) for one in function.decorator_list]
                kinds = {"property": properties, "classmethod": made}
                kinds.get(decorators[0] if decorators else "", methods).add(function.name)
        for node in file.nodes(ast.Attribute):
            if isinstance(node.ctx, ast.Store):
                stored.add(node.attr)
            elif not (isinstance(node.above, ast.Call) and node.above.func is node):
                read[node.attr] = file.says(node, f"the attribute {node.attr} is assigned nowhere")
        for node in file.nodes(ast.ClassDef):
            values |= {one.targets[0].id for one in node.body if isinstance(one, ast.Assign)}
    found = [f"{name} is a property and something else" for name in properties & (methods | made | values | METHODS)]
    # No property of the package has a setter (check_functions lets no such decorator by).
    found += [f"{name} is assigned and a property without a setter" for name in properties & stored]
    found += [f"{name} is a class method and something else" for name in made & (methods | stored | values | METHODS)]
    found += [f"{name} is a class value and something else" for name in values & (methods | stored)]
    found += [f"{name} is a method and an attribute" for name in methods & stored]
    for file in files:
        found += [file.says(node, "a star before a property") for node in file.nodes(ast.Starred)
                  if isinstance(node.value, ast.Attribute) and node.value.attr in properties]
    known = stored | properties | values | {"__name__", "__class__"}
    return found + [text for name, text in read.items() if name not in known]

"""Looks at the files of the package: whether they keep to the subset of Python of shared/LANGUAGE.md.

It sees most of what its rules tell, not all of it. Each finding is a text with the rule, the file and the line.
"""

import ast
import builtins
import io
import os
import re
import tokenize

PACKAGE = "stayhouse"
BUILTINS = set(
    "len range enumerate zip min max sum abs sorted reversed int str bool list tuple dict set isinstance ord repr "
    "any all divmod iter next Exception ValueError TypeError KeyError IndexError LookupError ZeroDivisionError "
    "ArithmeticError OverflowError RuntimeError NotImplementedError AttributeError StopIteration NotImplemented "
    "super property staticmethod classmethod".split())
LIBRARY = {"heapq": "heappush heappop heapify heapreplace heappushpop", "math": "gcd lcm isqrt comb perm factorial"}
METHODS = set(
    "append clear copy count endswith extend find get index insert isalnum isalpha isdigit islower isspace isupper "
    "items join keys ljust lower lstrip partition pop remove replace reverse rfind rjust rpartition rsplit rstrip "
    "setdefault split splitlines startswith strip update upper values zfill bit_length".split())
CHANGING = set("append clear extend insert pop remove reverse setdefault update sort add discard".split())
PLAIN_DUNDERS = set("__init__ __eq__ __repr__ __str__ __len__ __enter__ __exit__ __call__ __iter__".split())
OPERATORS = set(
    "__lt__ __le__ __gt__ __ge__ __ne__ __add__ __sub__ __mul__ __floordiv__ __mod__ __pow__ __and__ __or__ __xor__ "
    "__lshift__ __rshift__ __neg__ __pos__ __invert__ __abs__ __bool__ __contains__ __getitem__".split())
CHANGERS = set("__setitem__ __iadd__ __isub__ __imul__ __iand__ __ior__".split())
BARRED_NAMES = set(
    "register mro elements open input law version_info with_traceback add_note attrgetter breakpoint builtins compile "
    "copyright credits delattr dir eval exec exit gc getattr globals hasattr help id importlib license locals "
    "methodcaller os quit setattr type vars sys".split())
BARRED_ATTRIBUTES = set(
    "items keys values pop update append clear extend insert remove reverse setdefault sort args encode decode hex "
    "fromhex format as_integer_ratio bit_count conjugate from_bytes is_integer to_bytes real imag numerator "
    "denominator".split())
BARRED_WORDS = re.compile(
    r"\b(type|typing|typing_extensions|enum|Enum|IntEnum|StrEnum|Flag|IntFlag|Generic|Protocol|ABC|ABCMeta|namedtuple|"
    r"NamedTuple|TypedDict|TYPE_CHECKING|abstractmethod)\b|dataclass|overload|contextmanager")
ALLOWED_NODES = (
    ast.Module, ast.FunctionDef, ast.ClassDef, ast.Return, ast.Assign, ast.AugAssign, ast.For, ast.While, ast.If,
    ast.Raise, ast.Assert, ast.Expr, ast.Pass, ast.Break, ast.Continue, ast.Try, ast.With, ast.withitem, ast.Delete,
    ast.ImportFrom, ast.alias, ast.ExceptHandler, ast.arguments, ast.arg, ast.keyword, ast.BoolOp, ast.BinOp,
    ast.UnaryOp, ast.IfExp, ast.Dict, ast.Set, ast.ListComp, ast.SetComp, ast.DictComp, ast.Yield, ast.YieldFrom,
    ast.Compare, ast.Call, ast.FormattedValue, ast.JoinedStr, ast.Constant, ast.Attribute, ast.Subscript, ast.Starred,
    ast.Name, ast.List, ast.Tuple, ast.Slice, ast.comprehension, ast.expr_context, ast.boolop, ast.operator,
    ast.unaryop, ast.cmpop, ast.Nonlocal, ast.Lambda)
AT_ONCE = set("list tuple dict sorted sum any all enumerate zip min max".split())


class File:
    """A file of the package, read."""

    def __init__(self, path):
        self.name = os.path.basename(path)[:-3]
        with open(path, encoding="utf-8") as file:
            self.text = file.read()
        self.tree = ast.parse(self.text)
        self.parents = {}
        for node in ast.walk(self.tree):
            for child in ast.iter_child_nodes(node):
                self.parents[child] = node
        self.functions = [node for node in ast.walk(self.tree) if isinstance(node, ast.FunctionDef)]
        self.classes = [node for node in ast.walk(self.tree) if isinstance(node, ast.ClassDef)]
        self.imports = [node for node in self.tree.body if isinstance(node, ast.ImportFrom)]
        self.defined = [node.name for node in self.tree.body if isinstance(node, (ast.FunctionDef, ast.ClassDef))]
        for node in self.tree.body:
            if isinstance(node, ast.Assign):
                self.defined += [target.id for target in node.targets if isinstance(target, ast.Name)]
        self.imported = [alias.name for node in self.imports for alias in node.names]


def package_files(folder):
    """All files of the package."""
    return [File(os.path.join(folder, name)) for name in sorted(os.listdir(folder)) if name.endswith(".py")]


def findings(folder):
    """All findings in a folder with a package."""
    found = []
    for name in sorted(os.listdir(folder)):
        if name != "__pycache__" and not re.fullmatch(r"[a-z_][a-z0-9_]*\.py", name):
            found.append(f"L1 {name}")
    files = package_files(folder)
    for file in files:
        for look in (characters, sizes, imports, module_level, nodes, lambdas, names, calls, sets, doubles, bindings, orders):
            found += [f"{rule} {file.name}.py:{line}" for rule, line in look(file, files)]
        found += [f"L6 {file.name}.py:{line}" for line in exits(file)]
    found += cycles(files) + generators(files) + operators(files) + classes(files)
    return found


def characters(file, files):
    """Characters, words and strings: L12, L14, L17, L27."""
    for at, line in enumerate(file.text.split("\n"), 1):
        if not re.fullmatch(r"[ -~]*", line):
            yield "L14", at
        if "_wall" in line or "_WallAttr" in line:
            yield "L12", at
    for token in tokenize.generate_tokens(io.StringIO(file.text).readline):
        if token.type == tokenize.NAME and BARRED_WORDS.search(token.string):
            yield "L17", token.start[0]
    docs = [ast.get_docstring(node, clean=False) for node in [file.tree] + file.functions + file.classes]
    for node in ast.walk(file.tree):
        if isinstance(node, ast.Constant) and isinstance(node.value, str):
            if "%" in node.value or node.value.endswith(("._", ".__")) or re.fullmatch(r"__.*__", node.value):
                yield "L27", node.lineno
            if node.value not in docs and BARRED_WORDS.search(node.value):
                yield "L17", node.lineno


def sizes(file, files):
    """Sizes of lines, functions and files: L10."""
    lines = file.text.split("\n")
    if len(lines) > 400:
        yield "L10", len(lines)
    for at, line in enumerate(lines, 1):
        if len(line) > 120 or "\t" in line:
            yield "L10", at
    for node in file.functions:
        if node.end_lineno - node.lineno + 1 > 40:
            yield "L10", node.lineno


def imports(file, files):
    """Imports: L2, L16."""
    by_module = {f"{PACKAGE}.{other.name}": other for other in files}
    for node in ast.walk(file.tree):
        if isinstance(node, ast.Import):
            yield "L2", node.lineno
        if isinstance(node, ast.ImportFrom):
            names = [alias.name for alias in node.names]
            if node not in file.tree.body or node.level or any(alias.asname for alias in node.names):
                yield "L2", node.lineno
            elif node.module in LIBRARY:
                if not set(names) <= set(LIBRARY[node.module].split()):
                    yield "L2", node.lineno
            elif node.module not in by_module or not set(names) <= set(by_module[node.module].defined):
                yield "L16", node.lineno
    used = {node.id for node in ast.walk(file.tree) if isinstance(node, ast.Name)}
    for name in file.imported:
        if name not in used and file.name != "__init__":
            yield "unused import", 1


def module_level(file, files):
    """What stands at module level: L3, L15."""
    bound = []
    for at, node in enumerate(file.tree.body):
        if isinstance(node, ast.Expr):
            if at > 0 or not isinstance(node.value, ast.Constant):
                yield "L3", node.lineno
        elif isinstance(node, ast.Assign):
            if len(node.targets) != 1 or not isinstance(node.targets[0], ast.Name):
                yield "L3", node.lineno
        elif not isinstance(node, (ast.ImportFrom, ast.FunctionDef, ast.ClassDef)):
            yield "L3", node.lineno
    bound = file.defined + file.imported
    for name in set(bound):
        if bound.count(name) > 1:
            yield "L15", 1


def nodes(file, files):
    """Kinds of statements and expressions: L6, L7, L8, L19, L20."""
    for node in ast.walk(file.tree):
        if not isinstance(node, ALLOWED_NODES):
            yield "L6", getattr(node, "lineno", 0)
        if isinstance(node, (ast.Div, ast.MatMult)) or isinstance(node, ast.Constant) and isinstance(node.value, float):
            yield "L7", getattr(node, "lineno", 0)
        if isinstance(node, ast.FormattedValue) and node.conversion == ord("a"):
            yield "L7", node.lineno
        if isinstance(node, ast.ExceptHandler):
            caught = node.type.elts if isinstance(node.type, ast.Tuple) else [node.type]
            if not all(isinstance(one, ast.Name) for one in caught):
                yield "L19", node.lineno
            elif any(one.id in BUILTINS and one.id not in ("KeyError", "ZeroDivisionError") for one in caught):
                yield "L19", node.lineno
        if isinstance(node, ast.Raise) and node.exc is not None and not isinstance(node.exc, ast.Call):
            yield "L19", node.lineno
        if isinstance(node, ast.Compare) and any(isinstance(one, (ast.Is, ast.IsNot)) for one in node.ops):
            sides = [node.left] + node.comparators
            if not any(isinstance(one, ast.Constant) or isinstance(one, ast.Name) and one.id == "self" for one in sides):
                yield "L20", node.lineno
        if isinstance(node, ast.BinOp) and isinstance(node.op, ast.Pow) and not isinstance(node.right, ast.Constant):
            yield "L27", node.lineno


def lambdas(file, files):
    """Lambdas and handlers: L4, L13, L19."""
    lines = {}
    for node in ast.walk(file.tree):
        if isinstance(node, ast.Lambda):
            if node.args.vararg or node.args.kwarg or node.args.kwonlyargs or node.args.defaults:
                yield "L4", node.lineno
            lines.setdefault((node.lineno, tuple(one.arg for one in node.args.args)), []).append(node)
    for (line, _), found in lines.items():
        if len(found) > 1:
            yield "L13", line
    for node in file.functions:
        caught = [one.name for one in ast.walk(node) if isinstance(one, ast.ExceptHandler) and one.name]
        if len(set(caught)) < len(caught):
            yield "L19", node.lineno


def names(file, files):
    """Names: L8, L12, L15, L17, L26."""
    known = set(file.defined) | set(file.imported)
    for node in ast.walk(file.tree):
        if isinstance(node, ast.Name) and isinstance(node.ctx, ast.Load):
            if is_setter(file.parents[node]):
                continue
            if node.id not in known and node.id not in BUILTINS and node.id not in local_names(file, node):
                yield "L8", node.lineno
            if node.id == "_":
                yield "L12", node.lineno
        if isinstance(node, ast.Name) and isinstance(node.ctx, ast.Store) or isinstance(node, ast.arg):
            name = node.id if isinstance(node, ast.Name) else node.arg
            if name in dir(builtins) or name in BUILTINS or name in BARRED_NAMES or name.startswith("__"):
                yield "L15", node.lineno
            if enclosing(file, node, ast.FunctionDef) and name in file.imported + [one.name for one in file.classes]:
                yield "L15", node.lineno
        if isinstance(node, ast.Attribute) and isinstance(node.ctx, ast.Store) and node.attr in BARRED_ATTRIBUTES:
            yield "L26", node.lineno
        if isinstance(node, (ast.FunctionDef, ast.ClassDef)) and node.name in BARRED_NAMES | BARRED_ATTRIBUTES:
            if node in file.tree.body and node.name == "is_integer":
                continue
            yield "L17", node.lineno


def is_setter(node):
    """Whether a node is the decorator of the setter of a property."""
    return isinstance(node, ast.Attribute) and node.attr == "setter"


def enclosing(file, node, kind):
    """The innermost node of a kind around a node."""
    while node in file.parents:
        node = file.parents[node]
        if isinstance(node, kind):
            return node
    return None


def local_names(file, node):
    """The names that the functions around a node bind."""
    bound = set()
    around = enclosing(file, node, ast.FunctionDef)
    while around is not None:
        for one in ast.walk(around):
            if isinstance(one, ast.Name) and isinstance(one.ctx, ast.Store):
                bound.add(one.id)
            if isinstance(one, ast.arg):
                bound.add(one.arg)
            if isinstance(one, ast.ExceptHandler) and one.name:
                bound.add(one.name)
        around = enclosing(file, around, ast.FunctionDef)
    return bound


def calls(file, files):
    """Calls: L7, L22, L23, L25."""
    own = {one.name for other in files for one in other.functions}
    held = {node.attr for other in files for node in ast.walk(other.tree)
            if isinstance(node, ast.Attribute) and isinstance(node.ctx, ast.Store)}
    for node in ast.walk(file.tree):
        if not isinstance(node, ast.Call):
            continue
        if isinstance(node.func, ast.Attribute) and node.func.attr not in METHODS | own | held | {"__init__"}:
            yield "L25", node.lineno
        if isinstance(node.func, ast.Name):
            name = node.func.id
            if name in BUILTINS and name not in ("sorted", "min", "max", "sum", "enumerate", "zip") and node.keywords:
                yield "L22", node.lineno
            if name in ("zip", "enumerate", "reversed") and not is_at_once(file, node):
                yield "L23", node.lineno
            if name in ("range",) and not is_at_once(file, node) and not isinstance(file.parents[node], ast.Assign):
                yield "L23", node.lineno
            if name == "reversed" and not (node.args and isinstance(node.args[0], ast.Call)):
                yield "L5", node.lineno
        if isinstance(node.func, ast.Attribute) and node.func.attr in ("items", "keys", "values"):
            if not is_at_once(file, node):
                yield "L23", node.lineno
    for node in ast.walk(file.tree):
        if isinstance(node, ast.Attribute) and isinstance(node.ctx, ast.Load) and node.attr in METHODS:
            parent = file.parents[node]
            if not (isinstance(parent, ast.Call) and parent.func is node):
                yield "L25", node.lineno


def is_at_once(file, node):
    """Whether something is iterated where it stands."""
    parent = file.parents[node]
    if isinstance(parent, (ast.For, ast.comprehension)):
        return parent.iter is node
    return isinstance(parent, ast.Call) and isinstance(parent.func, ast.Name) and parent.func.id in AT_ONCE


def sets(file, files):
    """Sets: L24."""
    for node in ast.walk(file.tree):
        made = isinstance(node, ast.Call) and isinstance(node.func, ast.Name) and node.func.id in ("set", "frozenset")
        if made or isinstance(node, (ast.Set, ast.SetComp)):
            parent = file.parents[node]
            if isinstance(parent, ast.Call) and isinstance(parent.func, ast.Name) and parent.func.id in ("sorted", "len"):
                continue
            if isinstance(parent, ast.Compare) and isinstance(parent.ops[0], (ast.In, ast.NotIn)):
                continue
            yield "L24", node.lineno


def doubles(file, files):
    """Double-underscore methods: L4, L5, L28."""
    for node in file.functions:
        decorators = [one.id if isinstance(one, ast.Name) else getattr(one, "attr", "?") for one in node.decorator_list]
        if not set(decorators) <= {"property", "staticmethod", "classmethod", "setter"} or len(decorators) > 1:
            yield "L4", node.lineno
        returns = [one for one in ast.walk(node) if isinstance(one, ast.Return)]
        if node.name.startswith("__"):
            if node.name not in PLAIN_DUNDERS | OPERATORS | CHANGERS:
                yield "L5", node.lineno
            if node.name == "__init__" and returns:
                yield "L28", node.lineno
            if node.name in ("__str__", "__repr__", "__len__", "__bool__") and not isinstance(node.body[-1], ast.Return):
                yield "L28", node.lineno
            if node.name == "__len__" and not (isinstance(returns[0].value, ast.Call) and returns[0].value.func.id == "len"):
                yield "L28", node.lineno
            if node.name == "__iter__" and len(node.body) != 1:
                yield "L5", node.lineno
            if node.name in ("__eq__", "__str__", "__repr__", "__len__"):
                for one in ast.walk(node):
                    if isinstance(one, ast.Assign) and not isinstance(one.value, (ast.List, ast.ListComp)):
                        yield "L28", one.lineno
        for default in node.args.defaults + [one for one in node.args.kw_defaults if one]:
            if not isinstance(default, (ast.Constant, ast.Tuple, ast.UnaryOp)):
                yield "L4", node.lineno
    for node in file.classes:
        names_of = [one.name for one in node.body if isinstance(one, ast.FunctionDef)
                    and not any(is_setter(decorator) for decorator in one.decorator_list)]
        if "__getitem__" in names_of and "__iter__" not in names_of:
            yield "L5", node.lineno
        if node.decorator_list or len(set(names_of)) != len(names_of):
            yield "L18", node.lineno
        if {"__lt__", "__le__", "__gt__", "__ge__"} & set(names_of) and "__eq__" not in names_of:
            yield "L5", node.lineno


def bindings(file, files):
    """Attributes are assigned through local names, loops over plain names: L18, L6."""
    for node in ast.walk(file.tree):
        if isinstance(node, ast.Attribute) and isinstance(node.ctx, ast.Store):
            if not isinstance(node.value, ast.Name) or node.value.id in file.defined + file.imported:
                yield "L18", node.lineno


def orders(file, files):
    """What is sorted, where a class has an order: L5."""
    for node in ast.walk(file.tree):
        if isinstance(node, ast.Call) and isinstance(node.func, ast.Name) and node.func.id in ("sorted", "min", "max"):
            if not any(is_plain(argument) for argument in node.args):
                yield "L5", node.lineno
        if isinstance(node, ast.Call) and isinstance(node.func, ast.Attribute) and node.func.attr == "sort":
            yield "L5", node.lineno


def is_plain(node):
    """Whether an expression is plainly numbers or strings."""
    if isinstance(node, ast.Constant) or isinstance(node, ast.JoinedStr):
        return True
    if isinstance(node, ast.ListComp):
        return is_plain(node.elt)
    if isinstance(node, ast.BinOp):
        return is_plain(node.left) and is_plain(node.right)
    if isinstance(node, ast.Call) and isinstance(node.func, ast.Name):
        return node.func.id in ("len", "int", "ord", "str", "repr", "range", "set")
    return isinstance(node, ast.Call) and isinstance(node.func, ast.Attribute) and node.func.attr == "split"


def cycles(files):
    """No two files import from each other: L16."""
    reached = {file.name: {node.module.split(".")[-1] for node in file.imports} for file in files}
    for _ in files:
        for name in reached:
            for other in list(reached[name]):
                reached[name] |= reached.get(other, set())
    return [f"L16 {name}.py" for name in reached if name in reached[name]]


def generators(files):
    """Generators: L23."""
    found = []
    functions = [(file, node) for file in files for node in file.functions]
    made = {node.name: file.parents[node] for file, node in functions if is_generator(node)}
    for name in made:
        if len([node for _, node in functions if node.name == name]) > 1 or name in METHODS:
            found.append(f"L23 {name}")
    for file in files:
        for node in ast.walk(file.tree):
            named = isinstance(node, ast.Name) and node.id or isinstance(node, ast.Attribute) and node.attr
            # An attribute may have the name of a generator that is no method: the document wants both `rows`.
            if isinstance(node, ast.Attribute) and not isinstance(made.get(named), ast.ClassDef):
                continue
            if named in made and isinstance(node.ctx, ast.Load):
                call = file.parents[node]
                if not isinstance(call, ast.Call) or call.func is not node:
                    found.append(f"L23 {file.name}.py:{node.lineno}")
                elif not is_at_once(file, call) and not isinstance(file.parents[call], ast.YieldFrom):
                    found.append(f"L23 {file.name}.py:{node.lineno}")
    return found


def is_generator(node):
    """Whether a function has a yield."""
    return any(isinstance(one, (ast.Yield, ast.YieldFrom)) for one in ast.walk(node))


def operators(files):
    """What operators, properties and the like run changes nothing that it did not create: L5, L28."""
    by_name = {}
    begin = []
    for file in files:
        for node in file.functions:
            by_name.setdefault(node.name, []).append((file, node))
            decorators = [one.id for one in node.decorator_list if isinstance(one, ast.Name)]
            if node.name in OPERATORS | {"__eq__", "__str__", "__repr__", "__len__"} or "property" in decorators:
                begin.append((file, node))
    for file in files:
        for node in file.classes:
            for one in node.body:
                if isinstance(one, ast.FunctionDef) and one.name == "__init__":
                    by_name.setdefault(node.name, []).append((file, one))
    seen, waiting, found = [], begin, []
    while waiting:
        file, node = waiting.pop()
        if node in seen:
            continue
        seen.append(node)
        found += [f"L5 operator {file.name}.py:{line}" for line in changes(node)]
        if is_generator(node):
            found.append(f"L28 generator {file.name}.py:{node.lineno}")
        for call in [one for one in ast.walk(node) if isinstance(one, ast.Call)]:
            name = call.func.id if isinstance(call.func, ast.Name) else call.func.attr
            waiting.extend(by_name.get(name, []))
    return found


def changes(node):
    """The lines in a function that change what it did not create."""
    created = set()
    for one in ast.walk(node):
        if isinstance(one, ast.Assign) and isinstance(one.targets[0], ast.Name):
            value = one.value
            call = isinstance(value, ast.Call) and isinstance(value.func, ast.Name) and value.func.id
            if isinstance(value, (ast.List, ast.Dict, ast.ListComp)) or call in ("list", "dict", "sorted"):
                created.add(one.targets[0].id)
    for one in ast.walk(node):
        if isinstance(one, ast.Attribute) and isinstance(one.ctx, ast.Store) and node.name != "__init__":
            yield one.lineno
        if isinstance(one, ast.Subscript) and isinstance(one.ctx, (ast.Store, ast.Del)):
            if not isinstance(one.value, ast.Name) or one.value.id not in created:
                yield one.lineno
        if isinstance(one, ast.Call) and isinstance(one.func, ast.Attribute) and one.func.attr in CHANGING:
            if not isinstance(one.func.value, ast.Name) or one.func.value.id not in created:
                yield one.lineno
        if isinstance(one, ast.AugAssign) and not isinstance(one.value, ast.Constant):
            yield one.lineno


def exits(file):
    """What stands in an `__exit__` of the package: attributes of self that are assigned attributes, nothing else."""
    for node in file.functions:
        for one in node.body if node.name == "__exit__" else ():
            if not isinstance(one, ast.Assign) or not isinstance(one.targets[0], ast.Attribute) or len(one.targets) > 1:
                yield one.lineno
            elif not isinstance(one.targets[0].value, ast.Name) or not isinstance(one.value, ast.Attribute):
                yield one.lineno


def classes(files):
    """Names of methods, attributes, class values and static methods: L5, L18."""
    found = []
    attributes, methods, fixed = {}, {}, {}
    for file in files:
        for node in file.classes:
            for one in node.body:
                if isinstance(one, ast.FunctionDef):
                    table = fixed if one.decorator_list else methods
                    table.setdefault(one.name, []).append(node.name)
                    for name in ast.walk(one):
                        if isinstance(name, ast.Attribute) and isinstance(name.ctx, ast.Store):
                            attributes.setdefault(name.attr, []).append(node.name)
    for name in attributes:
        # Stricter than the rule: also of other classes, a name is either that of methods or that of attributes.
        if name in fixed or name in methods:
            found.append(f"L18 attribute {name}")
    found += [f"L5 static {name}" for name in fixed if name in methods]
    read = {node.attr for file in files for node in ast.walk(file.tree)
            if isinstance(node, ast.Attribute) and isinstance(node.ctx, ast.Load)}
    values = {target.id for file in files for node in file.classes for one in node.body
              if isinstance(one, ast.Assign) for target in one.targets}
    for name in read - set(attributes) - set(methods) - set(fixed) - values - METHODS - {"__class__", "__name__", "setter"}:
        found.append(f"L18 read {name}")
    return found

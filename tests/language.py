"""Looks for what the rules of the package's language do not let: faults of a dict from file names to their texts."""

import ast
import builtins

LIBRARY = {"heapq", "math", "itertools", "collections", "__future__"}
BUILTINS = set(
    "len range enumerate zip min max sum abs sorted reversed int str bool bytes list tuple dict set frozenset"
    " isinstance ord repr any all divmod pow getattr hasattr setattr iter next map super property staticmethod"
    " classmethod object Exception ValueError TypeError KeyError IndexError LookupError ZeroDivisionError"
    " ArithmeticError OverflowError RuntimeError NotImplementedError AttributeError StopIteration"
    " NotImplemented".split()
)
VALUE_METHODS = set(
    "append clear copy count endswith extend find get index insert isalnum isalpha isdigit islower isspace isupper"
    " items join keys ljust lower lstrip partition pop remove replace reverse rfind rjust rpartition rsplit rstrip"
    " setdefault split splitlines startswith strip update upper values zfill bit_length add discard isascii".split()
)
NO_ATTRIBUTES = set(
    "items keys values pop update append clear extend insert remove reverse setdefault sort args encode decode hex"
    " fromhex format format_map mro open input law register elements".split()
)
UNUSED_NAMES = set(
    "register mro elements open input law version_info with_traceback add_note attrgetter breakpoint builtins compile"
    " copyright credits delattr dir eval exec exit gc globals help id importlib license locals methodcaller os quit"
    " type vars sys hash next map".split()
)
FOLDING = {"any", "all", "min", "max", "sum", "sorted"}
ITERATORS = {"zip", "enumerate", "reversed", "range"}


def trees_of(texts):
    return {path: ast.parse(text) for path, text in texts.items()}


def nodes_of(trees, kinds):
    return [(path, node) for path, tree in trees.items() for node in ast.walk(tree) if isinstance(node, kinds)]


def decorators(node):
    return [ast.unparse(decorator) for decorator in node.decorator_list]


def methods_of(trees):
    """Tuples (path, class, method) of all methods."""
    return [
        (path, made, node) for path, made in nodes_of(trees, ast.ClassDef) for node in made.body
        if isinstance(node, ast.FunctionDef)
    ]


def properties_of(trees):
    """A dict from the names of all properties to bools: whether each class that has it has its setter."""
    names = {}
    for path, made in nodes_of(trees, ast.ClassDef):
        functions = [node for node in made.body if isinstance(node, ast.FunctionDef)]
        setters = {node.name for node in functions if f"{node.name}.setter" in decorators(node)}
        for node in functions:
            if "property" in decorators(node):
                names[node.name] = names.get(node.name, True) and node.name in setters
    return names


def assigned_attributes(trees):
    """Tuples (path, row, name) of all attributes that are assigned or deleted anywhere, by setattr, too."""
    found = []
    for path, node in nodes_of(trees, (ast.Attribute, ast.Call)):
        if isinstance(node, ast.Attribute) and isinstance(node.ctx, (ast.Store, ast.Del)):
            found.append((path, node.lineno, node.attr))
        if isinstance(node, ast.Call) and ast.unparse(node.func) == "setattr":
            found.append((path, node.lineno, ast.literal_eval(node.args[1])))
    return found


def property_faults(texts):
    """Where a property without a setter is assigned, or its name means something else, too."""
    trees = trees_of(texts)
    properties = properties_of(trees)
    faults = [
        (path, row, name) for path, row, name in assigned_attributes(trees) if not properties.get(name, True)
    ]
    for path, made, node in methods_of(trees):
        if node.name in properties and not {"property", f"{node.name}.setter"} & set(decorators(node)):
            faults.append((path, node.lineno, node.name))
    return sorted(faults + [(path, 0, name) for path in trees for name in properties if name in VALUE_METHODS])


def name_faults(texts):
    """Names of functions, classes, parameters, variables and attributes that are not let."""
    trees = trees_of(texts)
    others = set(dir(builtins)) - BUILTINS
    faults = []
    for path, node in nodes_of(trees, (ast.Name, ast.arg, ast.FunctionDef, ast.ClassDef)):
        name = getattr(node, "id", None) or getattr(node, "arg", None) or getattr(node, "name", None)
        bound = not isinstance(node, ast.Name) or isinstance(node.ctx, ast.Store)
        if name in others | UNUSED_NAMES or (bound and name in BUILTINS):
            faults.append((path, node.lineno, name))
        if name.startswith(("_wall", "_pe_", "_dcw_", "_enum_", "_cm_", "_twin_re_", "_lay_", "_law_", "_stub_",
            "_sre")):
            faults.append((path, node.lineno, name))
        if name.rstrip("_0123456789") in ("_cold", "_tuplegetter", "_outside", "_record", "_written_out",
            "_member_names"):
            faults.append((path, node.lineno, name))
    faults += [(path, row, name) for path, row, name in assigned_attributes(trees) if name in NO_ATTRIBUTES]
    for path, tree in trees.items():
        bound = {node.name for node in tree.body if isinstance(node, ast.ClassDef)}
        bound |= {alias.name for node in tree.body if isinstance(node, ast.ImportFrom) for alias in node.names}
        top = {node.name for node in tree.body if isinstance(node, ast.ClassDef)}
        for _, node in nodes_of({path: tree}, (ast.Name, ast.arg)):
            name = node.arg if isinstance(node, ast.arg) else node.id
            if name in bound and (isinstance(node, ast.arg) or isinstance(node.ctx, ast.Store)):
                faults.append((path, node.lineno, name))
        names = [getattr(node, "name", None) for node in tree.body] + [
            alias.name for node in tree.body if isinstance(node, ast.ImportFrom) for alias in node.names
        ] + [target.id for node in tree.body if isinstance(node, ast.Assign) for target in node.targets]
        faults += [(path, 0, name) for name in set(names) if name and names.count(name) > 1]
        assert top <= bound
    return faults


def attribute_faults(texts):
    """Attributes that are read but never assigned, called but no method, or a method and an attribute in one class."""
    trees = trees_of(texts)
    assigned = {name for _, _, name in assigned_attributes(trees)}
    methods = {node.name for _, _, node in methods_of(trees)}
    known = assigned | methods | VALUE_METHODS
    faults = [(path, node.lineno, node.attr) for path, node in nodes_of(trees, ast.Attribute) if node.attr not in known]
    for path, node in nodes_of(trees, ast.Call):
        if isinstance(node.func, ast.Attribute) and node.func.attr not in methods | VALUE_METHODS:
            faults.append((path, node.lineno, node.func.attr))
    for path, made in nodes_of(trees, ast.ClassDef):
        own = {node.name for node in made.body if isinstance(node, ast.FunctionDef)}
        faults += [(path, row, name) for _, row, name in assigned_attributes({path: made}) if name in own]
    return faults


def form_faults(texts):
    """Expressions and statements that are not let, as far as a single look tells."""
    trees = trees_of(texts)
    faults = []
    for path, node in nodes_of(trees, (ast.GeneratorExp, ast.Global, ast.Import, ast.AsyncFunctionDef, ast.SetComp)):
        if not isinstance(node, ast.SetComp):
            faults.append((path, getattr(node, "lineno", 0), type(node).__name__))
    for path, node in nodes_of(trees, (ast.Assign, ast.Return)):
        called = ast.unparse(node.value.func) if isinstance(node.value, ast.Call) else ""
        if called in ITERATORS | {"set"} or called.endswith((".items", ".keys", ".values", ".sort")):
            faults.append((path, node.lineno, called))
    for path, node in nodes_of(trees, ast.Compare):
        for sign, right in zip(node.ops, node.comparators):
            plain = isinstance(right, ast.Constant) and right.value in (None, True, False)
            if isinstance(sign, (ast.Is, ast.IsNot)) and not plain:
                faults.append((path, node.lineno, "is"))
    for path, node in nodes_of(trees, ast.Constant):
        value = node.value
        if isinstance(value, (float, complex)) or value is ...:
            faults.append((path, node.lineno, value))
        if isinstance(value, str) and ("%" in value or set(value) - {"\n", "\t", *map(chr, range(32, 127))}):
            faults.append((path, node.lineno, value))
    made = {node.name for _, _, node in methods_of(trees) if "classmethod" in decorators(node)}
    called = {id(node.func) for _, node in nodes_of(trees, ast.Call)}
    for path, node in nodes_of(trees, ast.Attribute):
        # A method that is read off a class bars its attributes' names elsewhere; class methods are called off it.
        if isinstance(node.value, ast.Name) and node.value.id[0].isupper() and not node.value.id.isupper():
            if node.attr not in made or id(node) not in called:
                faults.append((path, node.lineno, ast.unparse(node)))
    for path, tree in trees.items():
        for row in tree.body:
            if isinstance(row, ast.Assign) and not (len(row.targets) == 1 and isinstance(row.targets[0], ast.Name)):
                faults.append((path, row.lineno, ast.unparse(row)))
        used = [ast.unparse(node) for _, node in nodes_of({path: tree}, (ast.Name, ast.Attribute))]
        for row in tree.body:
            if isinstance(row, ast.ImportFrom):
                faults += [(path, row.lineno, alias.name) for alias in row.names if alias.name not in used]
    for path, node in nodes_of(trees, (ast.BinOp, ast.AugAssign)):
        if isinstance(node.op, ast.Div):
            faults.append((path, node.lineno, "/"))
    return faults


def index_faults(texts):
    """Stars within the brackets of an index."""
    return [
        (path, inner.lineno, ast.unparse(inner)) for path, node in nodes_of(trees_of(texts), ast.Subscript)
        for inner in ast.walk(node.slice) if isinstance(inner, ast.Starred)
    ]


OPERATORS = {"__eq__", "__len__", "__str__", "__repr__", "__add__", "__and__", "__or__", "__contains__"}
CHANGING = {"append", "extend", "pop", "remove", "insert", "clear", "update", "setdefault", "reverse", "heappush"}


def purity_faults(texts):
    """What operators and properties, and all that they call by any of its names, change or call without a name.

    Only the assignment of own attributes by an `__init__` is no fault, as it makes a new object.
    """
    trees = trees_of(texts)
    known, waiting = {}, []
    for path, node in nodes_of(trees, ast.FunctionDef):
        known.setdefault(node.name, []).append((path, node))
    for path, made in nodes_of(trees, ast.ClassDef):
        for node in made.body:
            if isinstance(node, ast.FunctionDef) and node.name == "__init__":
                known.setdefault(made.name, []).append((path, node))
            if isinstance(node, ast.FunctionDef) and ("property" in decorators(node) or node.name in OPERATORS):
                waiting.append((path, node))
    objects = {made.name for _, made in nodes_of(trees, ast.ClassDef)}
    faults, seen = [], set()
    while waiting:
        path, function = waiting.pop()
        if id(function) in seen:
            continue
        seen.add(id(function))
        parameters = {row.arg for row in function.args.args}
        for node in ast.walk(function):
            if isinstance(node, (ast.Attribute, ast.Subscript)) and not isinstance(node.ctx, ast.Load):
                if not (function.name == "__init__" and ast.unparse(node.value) == "self"):
                    faults.append((path, node.lineno, ast.unparse(node)))
            if isinstance(node, (ast.AugAssign, ast.Delete, ast.Yield, ast.Lambda, ast.With)):
                faults.append((path, node.lineno, type(node).__name__))
            if isinstance(node, ast.Call):
                name = getattr(node.func, "id", None) or getattr(node.func, "attr", "")
                if name in CHANGING or name in parameters:
                    faults.append((path, node.lineno, name))
                if isinstance(node.func, ast.Name) or name not in VALUE_METHODS:
                    waiting += known.get(name, [])
                assert isinstance(node.func, (ast.Name, ast.Attribute)), objects
    return faults


def clash_faults(texts):
    """Names that a method of one class and an attribute of any class have."""
    trees = trees_of(texts)
    methods = {node.name for _, _, node in methods_of(trees)}
    return [(path, row, name) for path, row, name in assigned_attributes(trees) if name in methods]


def generator_faults(texts):
    """Names of generators that other functions have, too, and generators that are not iterated at once."""
    trees = trees_of(texts)
    makers = {
        node.name for _, node in nodes_of(trees, ast.FunctionDef)
        if any(isinstance(inner, (ast.Yield, ast.YieldFrom)) for inner in ast.walk(node))
    }
    names = [node.name for _, node in nodes_of(trees, ast.FunctionDef)]
    faults = [("", 0, name) for name in sorted(makers) if names.count(name) > 1]
    iterated = set()
    for _, node in nodes_of(trees, (ast.For, ast.comprehension, ast.Call)):
        if isinstance(node, ast.Call):
            if ast.unparse(node.func) in {"list", "tuple", "sorted", "dict", "sum"} and node.args:
                iterated.add(id(node.args[0]))
        else:
            iterated.add(id(node.iter))
    for path, node in nodes_of(trees, ast.Call):
        name = getattr(node.func, "id", None) or getattr(node.func, "attr", "")
        if name in makers and id(node) not in iterated:
            faults.append((path, node.lineno, name))
    return faults


def handler_faults(texts):
    """Handlers of other errors than own ones, and StopIteration."""
    trees = trees_of(texts)
    own = {node.name for _, node in nodes_of(trees, ast.ClassDef)}
    faults = []
    for path, node in nodes_of(trees, ast.ExceptHandler):
        kinds = node.type.elts if isinstance(node.type, ast.Tuple) else [node.type]
        faults += [(path, node.lineno, ast.unparse(kind)) for kind in kinds if getattr(kind, "id", None) not in own]
    return faults


EXIT_NODES = (
    ast.FunctionDef, ast.arguments, ast.arg, ast.Assign, ast.Attribute, ast.Name, ast.Load, ast.Store, ast.Constant,
    ast.If, ast.Return, ast.Pass, ast.Expr, ast.Tuple,
)


def asked_parts(test):
    """The parts of a test that `and`, `or` and `not` join."""
    if isinstance(test, ast.BoolOp):
        return [part for value in test.values for part in asked_parts(value)]
    if isinstance(test, ast.UnaryOp) and isinstance(test.op, ast.Not):
        return asked_parts(test.operand)
    return [test]


def is_asked_for_none(part):
    """Whether a part of a test is a name or an attribute, and `is None` or `is not None`."""
    return (
        isinstance(part, ast.Compare) and isinstance(part.left, (ast.Name, ast.Attribute))
        and [type(sign) in (ast.Is, ast.IsNot) for sign in part.ops] == [True]
        and ast.unparse(part.comparators[0]) == "None"
    )


def exit_faults(texts):
    """What may not stand in an `__exit__` or in a `finally`, in a package with an `__eq__`."""
    trees = trees_of(texts)
    rows = [(path, node) for path, _, node in methods_of(trees) if node.name == "__exit__"]
    rows += [(path, inner) for path, node in nodes_of(trees, ast.Try) for inner in node.finalbody]
    faults = []
    for path, row in rows:
        tests = [node.test for node in ast.walk(row) if isinstance(node, ast.If)]
        parts = [part for test in tests for part in asked_parts(test)]
        faults += [(path, part.lineno, ast.unparse(part)) for part in parts if not is_asked_for_none(part)]
        asked = {id(node) for test in tests for node in ast.walk(test)}
        for node in ast.walk(row):
            if id(node) not in asked and not isinstance(node, EXIT_NODES):
                faults.append((path, getattr(node, "lineno", 0), type(node).__name__))
            if isinstance(node, ast.Name) and node.id in ("value", "trace"):
                faults.append((path, node.lineno, node.id))
    return faults


def loop_faults(texts):
    """Loops that change, by its own name or attribute, what they iterate over."""
    faults = []
    changing = {"append", "extend", "pop", "remove", "insert", "clear", "update", "setdefault", "add", "discard"}
    for path, loop in nodes_of(trees_of(texts), ast.For):
        over = loop.iter
        if isinstance(over, ast.Call) and ast.unparse(over.func) in ITERATORS:
            over = over.args[0]
        if isinstance(over, ast.Call) and isinstance(over.func, ast.Attribute):
            over = over.func.value
        if not isinstance(over, (ast.Name, ast.Attribute)):
            continue
        word = ast.unparse(over)
        for node in ast.walk(ast.Module(body=loop.body, type_ignores=[])):
            if isinstance(node, ast.Call) and isinstance(node.func, ast.Attribute) and node.func.attr in changing:
                if ast.unparse(node.func.value) == word:
                    faults.append((path, node.lineno, word))
            if isinstance(node, ast.Subscript) and not isinstance(node.ctx,
                ast.Load) and ast.unparse(node.value) == word:
                faults.append((path, node.lineno, word))
            if isinstance(node, ast.Call) and ast.unparse(node.func) in ("heappush", "heappop"):
                if ast.unparse(node.args[0]) == word:
                    faults.append((path, node.lineno, word))
    return faults


def import_faults(texts):
    """Imports of other modules, of names that their file does not define, and files that import from each other."""
    trees = trees_of(texts)
    faults, arrows = [], {}
    for path, node in nodes_of(trees, ast.ImportFrom):
        module = node.module or ""
        arrows.setdefault(path, []).append(module.replace(".", "/") + ".py")
        if node.level or module.split(".")[0] not in {"heldby", *LIBRARY}:
            faults.append((path, node.lineno, module))
        if module.startswith("heldby"):
            source = trees.get(module.replace(".", "/") + ".py", ast.parse(""))
            defined = {getattr(row, "name", None) for row in source.body}
            defined |= {row.targets[0].id for row in source.body if isinstance(row, ast.Assign)}
            faults += [(path, node.lineno, alias.name) for alias in node.names if alias.name not in defined]
    for path in trees:
        reached, fresh = set(), [path]
        while fresh:
            for further in arrows.get(fresh.pop(), []):
                if further == path:
                    faults.append((path, 0, "circle"))
                elif further not in reached:
                    reached.add(further)
                    fresh.append(further)
    return faults

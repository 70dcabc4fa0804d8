"""Finds plain breaches of the rules of the language (L1 to L28) in the package; it does not know all rules."""

import ast
import builtins
import io
import pathlib
import tokenize

PACKAGE = pathlib.Path(__file__).resolve().parent.parent / "steadhold"

BUILTINS = set(
    "len range enumerate zip min max sum abs sorted reversed int str bool bytes list tuple dict set frozenset "
    "isinstance ord repr any all divmod pow getattr hasattr setattr iter next map Exception ValueError TypeError "
    "KeyError IndexError LookupError ZeroDivisionError ArithmeticError OverflowError RuntimeError "
    "NotImplementedError AttributeError StopIteration NotImplemented super property".split()
)
METHODS = set(
    "append clear copy count endswith extend find get index insert isalnum isalpha isdigit islower isspace isupper "
    "items join keys ljust lower lstrip partition pop remove replace reverse rfind rjust rpartition rsplit rstrip "
    "setdefault split splitlines startswith strip update upper values zfill bit_length sort add discard".split()
)
NO_ATTRIBUTES = set(
    "items keys values pop update append clear extend insert remove reverse setdefault sort args encode decode hex "
    "fromhex format format_map mro".split()
)
NO_NAMES = set("register mro elements open input law version_info with_traceback add_note".split())
NO_VARIABLES = set(
    "attrgetter breakpoint builtins compile copyright credits delattr dir eval exec exit gc getattr globals hasattr "
    "help id importlib license locals methodcaller os quit setattr super type vars sys".split()
)
NO_WORDS = set(
    "typing typing_extensions enum Enum IntEnum StrEnum Flag IntFlag Generic Protocol ABC ABCMeta namedtuple "
    "NamedTuple TypedDict TYPE_CHECKING abstractmethod dataclass overload contextmanager _wall _WallAttr".split()
)
SPECIAL = set("__init__ __eq__ __repr__ __str__ __len__ __enter__ __exit__ __call__ __iter__".split())
STATEMENTS = (
    ast.Assign, ast.AugAssign, ast.If, ast.While, ast.For, ast.Return, ast.Break, ast.Continue, ast.Pass, ast.Raise,
    ast.Assert, ast.Delete, ast.Nonlocal, ast.Match, ast.Try, ast.Expr, ast.FunctionDef, ast.ClassDef, ast.ImportFrom,
)


def files():
    return sorted(PACKAGE.rglob("*.py"))


def tree_of(path):
    return ast.parse(path.read_text(encoding="utf-8"))


def module_names(tree):
    """The names that a module binds, each as often as it does."""
    names = []
    for node in tree.body:
        if isinstance(node, (ast.FunctionDef, ast.ClassDef)):
            names.append(node.name)
        elif isinstance(node, ast.Assign):
            names.extend(target.id for target in node.targets if isinstance(target, ast.Name))
        elif isinstance(node, ast.ImportFrom):
            names.extend(alias.asname or alias.name for alias in node.names)
    return names


def defined_names(tree):
    return module_names(ast.Module([node for node in tree.body if not isinstance(node, ast.ImportFrom)], []))


def is_docstring(node):
    return isinstance(node, ast.Expr) and isinstance(node.value, ast.Constant) and isinstance(node.value.value, str)


def text_faults(path):
    text = path.read_text(encoding="utf-8")
    lines = text.split("\n")
    if len(lines) > 400 or not text.endswith("\n"):
        yield 0, "L10 the file's lines"
    for at, line in enumerate(lines, 1):
        if len(line) > 120:
            yield at, "L10 a long line"
        if line != line.rstrip() or any(not " " <= sign <= "~" for sign in line):
            yield at, "L14 a character"
    for token in tokenize.generate_tokens(io.StringIO(text).readline):
        if token.type == tokenize.STRING and ("%" in token.string or "\\" in token.string):
            yield token.start[0], "L27 a string"
        if token.type == tokenize.NAME and token.string in NO_WORDS | {"type", "global", "async", "await"}:
            yield token.start[0], "L17 a word"


def module_faults(tree):
    behind_imports = False
    for at, node in enumerate(tree.body):
        if isinstance(node, ast.ImportFrom):
            if behind_imports or node.level or not (node.module or "").startswith("steadhold."):
                yield node.lineno, "L2 an import"
            if any(alias.name == "*" or alias.asname for alias in node.names):
                yield node.lineno, "L2 an import"
            continue
        if is_docstring(node) and at == 0:
            continue
        behind_imports = True
        if isinstance(node, ast.Assign):
            if len(node.targets) != 1 or not isinstance(node.targets[0], ast.Name):
                yield node.lineno, "L3 an assignment"
        elif not isinstance(node, (ast.FunctionDef, ast.ClassDef)):
            yield node.lineno, "L3 a statement"
    names = module_names(tree)
    for name in set(names):
        if names.count(name) > 1 or hasattr(builtins, name):
            yield 0, f"L15 {name} is bound twice or a builtin"


def import_faults(trees):
    """Faults of imports between the files: undefined names, unused names, circles."""
    leads = {}
    for path, tree in trees.items():
        used = {node.id for node in ast.walk(tree) if isinstance(node, ast.Name)}
        for node in [node for node in tree.body if isinstance(node, ast.ImportFrom)]:
            source = PACKAGE / (node.module.split(".", 1)[1].replace(".", "/") + ".py")
            leads.setdefault(path, []).append(source)
            for alias in node.names:
                if source not in trees or alias.name not in defined_names(trees[source]):
                    yield path, node.lineno, f"L16 {alias.name} is not defined there"
                if alias.name not in used:
                    yield path, node.lineno, f"{alias.name} is imported and not used"
    for path in trees:
        seen, ahead = [], list(leads.get(path, []))
        while ahead:
            source = ahead.pop()
            if source == path:
                yield path, 0, "L16 a circle of imports"
                break
            if source not in seen:
                seen.append(source)
                ahead.extend(leads.get(source, []))


def locals_of(function):
    names = [node.arg for node in ast.walk(function) if isinstance(node, ast.arg)]
    for node in ast.walk(function):
        if isinstance(node, ast.Name) and isinstance(node.ctx, (ast.Store, ast.Del)):
            names.append(node.id)
        if isinstance(node, ast.FunctionDef) and node is not function:
            names.append(node.name)
        if isinstance(node, ast.ExceptHandler) and node.name:
            names.append(node.name)
    return names


def function_faults(tree):
    barred = {node.name for node in tree.body if isinstance(node, ast.ClassDef)}
    for node in tree.body:
        if isinstance(node, ast.ImportFrom):
            barred.update(alias.name for alias in node.names)
    for node in ast.walk(tree):
        if not isinstance(node, ast.FunctionDef):
            continue
        if node.end_lineno - node.lineno + 1 > 40:
            yield node.lineno, "L10 a long function"
        for name in set(locals_of(node)):
            if name in barred or hasattr(builtins, name) or name in NO_NAMES | NO_VARIABLES:
                yield node.lineno, f"L15 or L17 the local name {name}"
            if name.startswith("__") or not name.isascii():
                yield node.lineno, f"L12 the name {name}"


def outermost_functions(tree):
    """The functions of a module and the methods of its classes; nested functions are parts of these."""
    for node in tree.body:
        if isinstance(node, ast.FunctionDef):
            yield node
        elif isinstance(node, ast.ClassDef):
            yield from (part for part in node.body if isinstance(part, ast.FunctionDef))


def assigned_attributes(tree):
    """The attributes that are assigned or deleted, in whatever statement: a target in a tuple or a loop too."""
    for node in ast.walk(tree):
        if isinstance(node, ast.Attribute) and not isinstance(node.ctx, ast.Load):
            yield node


def attribute_faults(tree):
    """Attributes that are assigned through a call, an item, an attribute, a class or a name of the module."""
    right = set()
    for function in outermost_functions(tree):
        names = set(locals_of(function))
        for node in assigned_attributes(function):
            if isinstance(node.value, ast.Name) and node.value.id in names:
                right.add(node)
    for node in assigned_attributes(tree):
        if node not in right:
            yield node.lineno, f"L18 {ast.unparse(node)} is not assigned through a local name"


def called_name(node):
    return node.func.id if isinstance(node.func, ast.Name) else None


def is_set(node):
    return isinstance(node, (ast.Set, ast.SetComp)) or (isinstance(node, ast.Call) and called_name(node) == "set")


def node_faults(node, own):
    """Faults of one node, whatever stands around it; own holds the names of the package's methods and attributes."""
    if isinstance(node, ast.stmt) and not isinstance(node, STATEMENTS):
        yield "L6 a statement"
    if isinstance(node, (ast.FunctionDef, ast.ClassDef)):
        if node.decorator_list:
            yield "L4 a decorator"
        if node.name.startswith("__") and node.name not in SPECIAL:
            yield f"L5 {node.name}"
        if node.name in NO_NAMES | NO_VARIABLES:
            yield f"L17 {node.name}"
    if isinstance(node, ast.Constant) and isinstance(node.value, (float, complex)):
        yield "L7 a float"
    if isinstance(node, ast.Div):
        yield "L7 a quotient"
    if isinstance(node, ast.Name) and isinstance(node.ctx, ast.Load) and hasattr(builtins, node.id):
        if node.id not in BUILTINS:
            yield f"L8 {node.id}"
    if isinstance(node, ast.Attribute):
        if node.attr in NO_NAMES or node.attr.startswith("__") or node.attr not in METHODS | own:
            yield f"L17, L18 or L25 .{node.attr}"
        if isinstance(node.ctx, ast.Store) and node.attr in NO_ATTRIBUTES:
            yield f"L26 .{node.attr}"
    if isinstance(node, ast.Compare):
        for sign, right in zip(node.ops, node.comparators):
            if isinstance(sign, (ast.Is, ast.IsNot)):
                if not isinstance(right, ast.Constant) or right.value not in (None, True, False):
                    yield "L20 is"
    if not (isinstance(node, ast.Call) and called_name(node) in ("len", "sorted")):
        if any(is_set(part) for part in ast.iter_child_nodes(node)):
            yield "L24 a set outside of len and sorted: see the rule"


def class_names(tree):
    """For each class its methods, and the attributes that its methods assign to self."""
    for node in tree.body:
        if isinstance(node, ast.ClassDef):
            methods = [part.name for part in node.body if isinstance(part, ast.FunctionDef)]
            attributes = {
                part.attr for part in ast.walk(node)
                if isinstance(part, ast.Attribute) and isinstance(part.ctx, ast.Store)
                and isinstance(part.value, ast.Name) and part.value.id == "self"
            }
            yield node, methods, attributes


def faults():
    """The list of the breaches, as strings."""
    trees = {path: tree_of(path) for path in files()}
    own = set()
    found = []
    for path, tree in trees.items():
        for node, methods, attributes in class_names(tree):
            own.update(methods)
            own.update(attributes)
            if set(methods) & attributes or len(set(methods)) != len(methods):
                found.append(f"{path.name}:{node.lineno}: L18 a name is a method twice, or an attribute too")
    for path, tree in trees.items():
        for line, word in [
            *text_faults(path), *module_faults(tree), *function_faults(tree), *attribute_faults(tree),
        ]:
            found.append(f"{path.name}:{line}: {word}")
        for node in ast.walk(tree):
            for word in node_faults(node, own):
                found.append(f"{path.name}:{getattr(node, 'lineno', 0)}: {word}")
    for path, line, word in import_faults(trees):
        found.append(f"{path.name}:{line}: {word}")
    for path in PACKAGE.rglob("*"):
        if path.suffix != ".py" and "__pycache__" not in path.parts:
            found.append(f"{path.name}: L1 is no file of the language")
    return found

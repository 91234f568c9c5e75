"""A check that the package keeps ../shared/LANGUAGE.md, as far as a script can see it.

`faults_of(files)` takes a dict of the texts of a package's files by name and
returns a list of (rule, file, line). It is stricter than the rules in places:
the package uses no annotation, no generator and no `as` of an import at all.
"""

import ast
import builtins
import io
import re
import tokenize
import warnings

PACKAGE = "boundonce"
LIBRARY = {
    "heapq": "heappush heappop heapify heapreplace heappushpop",
    "math": "gcd lcm isqrt comb perm factorial",
    "itertools": "product combinations permutations chain accumulate pairwise islice zip_longest",
    "collections": "defaultdict",
}
BUILTINS = set(
    "len range enumerate zip min max sum abs sorted reversed int str bool bytes list tuple dict set frozenset"
    " isinstance ord repr any all divmod pow iter next map property staticmethod classmethod super Exception"
    " ValueError TypeError KeyError IndexError LookupError ZeroDivisionError ArithmeticError OverflowError"
    " RuntimeError NotImplementedError AttributeError StopIteration NotImplemented".split()
)
DOUBLE = set(
    "init eq repr str len enter exit call iter lt le gt ge ne add sub mul floordiv mod pow and or xor lshift"
    " rshift radd rsub rmul rfloordiv rmod rand ror rxor rlshift rrshift iadd isub imul ifloordiv imod ipow"
    " iand ior ixor ilshift irshift neg pos invert abs bool contains getitem setitem".split()
)
METHODS = set(
    "append clear copy count endswith extend find get index insert isalnum isalpha isdigit islower isspace"
    " isupper items join keys ljust lower lstrip partition pop remove replace reverse rfind rjust rpartition"
    " rsplit rstrip setdefault split splitlines startswith strip update upper values zfill bit_length add"
    " discard title capitalize swapcase casefold center expandtabs removeprefix removesuffix rindex isascii"
    " isdecimal isnumeric istitle isidentifier isprintable".split()
)
OWN_METHODS_LIKE_BUILTIN = METHODS - {"title", "center"}
NOT_ATTRIBUTES = set(
    "items keys values pop update append clear extend insert remove reverse setdefault sort args encode decode"
    " hex fromhex format".split()
)
BARRED_ALWAYS = set("register mro elements open input law version_info with_traceback add_note".split())
BARRED_NAMES = set(
    "attrgetter breakpoint builtins compile copyright credits delattr dir eval exec exit gc getattr globals"
    " hasattr help id importlib license locals methodcaller os quit setattr type vars sys".split()
)
BARRED_WORDS = set(
    "type typing typing_extensions enum Enum IntEnum StrEnum Flag IntFlag Generic Protocol ABC ABCMeta"
    " namedtuple NamedTuple TypedDict TYPE_CHECKING abstractmethod".split()
)
BARRED_INSIDE = ("dataclass", "overload", "contextmanager", "_wall", "_WallAttr")
AT_ONCE = set("list tuple dict sorted sum any all enumerate zip bytes min max len".split())
LAZY = ("zip", "enumerate", "reversed", "range", "map")
VIEWS = ("items", "keys", "values")
FUNCTIONS = (ast.FunctionDef, ast.AsyncFunctionDef, ast.Lambda)


class File:
    """One file of the package: its text, its tree, and who stands around each node."""

    def __init__(self, name, text):
        self.name = name
        self.text = text
        self.tree = ast.parse(text)
        self.parents = {}
        for node in ast.walk(self.tree):
            for child in ast.iter_child_nodes(node):
                self.parents[child] = node
        self.docstrings = set()
        for node in ast.walk(self.tree):
            if isinstance(node, (ast.Module, ast.ClassDef, ast.FunctionDef)) and ast.get_docstring(node) is not None:
                self.docstrings.add(node.body[0].value)

    def nodes(self, *kinds):
        return [node for node in ast.walk(self.tree) if isinstance(node, kinds)]

    def parent(self, node):
        return self.parents.get(node)

    def in_function(self, node):
        while node is not None:
            node = self.parent(node)
            if isinstance(node, FUNCTIONS):
                return True
        return False


def faults_of(files):
    """Return the list of (rule, file, line) of a package, given as a dict of texts by file name."""
    found = file_faults(files)
    parsed = []
    for name in sorted(files):
        if name.endswith(".py"):
            try:
                parsed.append(File(name, files[name]))
            except SyntaxError as error:
                found.append(("L6", name, error.lineno))
    package = Package(parsed)
    for file in parsed:
        for check in CHECKS:
            found += [(rule, file.name, line) for rule, line in check(file, package)]
    return sorted(set(found + cycle_faults(parsed)))


class Package:
    """What the files of a package define together."""

    def __init__(self, parsed):
        self.defined = {}
        self.classes = set()
        self.methods = set()
        self.properties = set()
        self.attributes = set()
        self.static = set()
        for file in parsed:
            self.defined[file.name] = set()
            for node in file.tree.body:
                for name in bound_by(node):
                    if not isinstance(node, ast.ImportFrom):
                        self.defined[file.name].add(name)
            for node in file.nodes(ast.ClassDef):
                self.look_at(node)

    def look_at(self, node):
        self.classes.add(node.name)
        for part in node.body:
            if isinstance(part, ast.FunctionDef):
                words = [word.id for word in part.decorator_list if isinstance(word, ast.Name)]
                kind = self.properties if "property" in words else self.methods
                kind.add(part.name)
            if isinstance(part, ast.Assign):
                self.attributes |= {target.id for target in part.targets}
        for part in ast.walk(node):
            if isinstance(part, ast.Attribute) and isinstance(part.ctx, ast.Store):
                self.attributes.add(part.attr)


def bound_by(node):
    """Return the names that a statement at module level binds."""
    if isinstance(node, (ast.FunctionDef, ast.ClassDef)):
        return [node.name]
    if isinstance(node, (ast.ImportFrom, ast.Import)):
        return [alias.asname or alias.name for alias in node.names]
    if isinstance(node, ast.Assign):
        return [part.id for target in node.targets for part in ast.walk(target) if isinstance(part, ast.Name)]
    return []


def file_faults(files):
    """L1, L14: names, number and characters of the files."""
    found = []
    if "__init__.py" not in files or len(files) > 100:
        found.append(("L14", "", 0))
    for name, text in files.items():
        stem = name[:-3] if name.endswith(".py") else ""
        if not re.fullmatch(r"[A-Za-z0-9_]+", stem):
            found.append(("L1", name, 0))
        if stem not in ("__init__", "__main__"):
            if not re.fullmatch(r"[a-z][a-z0-9_]*", stem) or re.match(r"law_|tests?$|testing$|test_", stem):
                found.append(("L14", name, 0))
            if hasattr(builtins, stem) or stem in BARRED_WORDS | {"site", "conftest", "heapq", "math", "itertools"}:
                found.append(("L14", name, 0))
        for number, line in enumerate(text.split("\n"), 1):
            if re.search(r"[^ -~]", line):
                found.append(("L14", name, number))
            if len(line) > 120 or number > 400:
                found.append(("L10", name, number))
    return found


def import_faults(file, package):
    """L2, L16: imports at the top, of this package or the named library, from the defining file."""
    top = True
    for node in file.tree.body:
        if isinstance(node, ast.ImportFrom):
            if not top:
                yield "L2", node.lineno
        elif not (isinstance(node, ast.Expr) and node.value in file.docstrings):
            top = False
    for node in file.nodes(ast.Import, ast.ImportFrom):
        if isinstance(node, ast.Import) or node not in file.tree.body or node.level:
            yield "L2", node.lineno
        elif node.module in LIBRARY:
            if not {alias.name for alias in node.names} <= set(LIBRARY[node.module].split()):
                yield "L2", node.lineno
        elif not node.module.startswith(PACKAGE + ".") or node.module.endswith("__main__"):
            yield "L2", node.lineno
        else:
            there = package.defined.get(node.module[len(PACKAGE) + 1:] + ".py", set())
            for alias in node.names:
                if alias.name == "*" or alias.asname is not None:
                    yield "L2", node.lineno
                elif alias.name not in there:
                    yield "L16", node.lineno


def cycle_faults(parsed):
    """L16: no two files import from each other, also through others."""
    leads = {}
    for file in parsed:
        modules = [node.module or "" for node in file.nodes(ast.ImportFrom)]
        leads[file.name] = {module[len(PACKAGE) + 1:] + ".py" for module in modules if module.startswith(PACKAGE)}
    found = []
    for name in leads:
        reached, waiting = set(), list(leads[name])
        while waiting:
            at = waiting.pop()
            if at not in reached:
                reached.add(at)
                waiting += list(leads.get(at, ()))
        if name in reached:
            found.append(("L16", name, 1))
    return found


def module_faults(file, package):
    """L3, L15: what stands at module level, each name bound once."""
    bound, functions = [], set()
    for node in file.tree.body:
        bound += bound_by(node)
        if isinstance(node, ast.Assign):
            plain_target = len(node.targets) == 1 and isinstance(node.targets[0], ast.Name)
            if not plain_target or not is_plain(node.value, functions, True):
                yield "L3", node.lineno
        elif isinstance(node, ast.FunctionDef):
            functions.add(node.name)
        elif isinstance(node, ast.Expr):
            if node.value not in file.docstrings:
                yield "L3", node.lineno
        elif not isinstance(node, (ast.ClassDef, ast.ImportFrom)):
            yield "L3", node.lineno
    if len(bound) != len(set(bound)):
        yield "L15", 1
    barred = {node.name for node in file.nodes(ast.ClassDef)}
    for node in file.tree.body:
        if isinstance(node, ast.ImportFrom):
            barred |= set(bound_by(node))
    for name, line in local_names(file):
        if name in barred or hasattr(builtins, name):
            yield "L15", line
    for name in bound:
        if hasattr(builtins, name):
            yield "L15", 1
    for node in file.nodes(ast.ClassDef):
        if node not in file.tree.body:
            yield "L15", node.lineno


def is_plain(node, functions, outer):
    """Return whether a value at module level is plain; within another one it is no list or dict."""
    if isinstance(node, ast.Constant):
        return not isinstance(node.value, (float, complex)) and node.value is not ...
    if isinstance(node, ast.UnaryOp):
        return isinstance(node.operand, ast.Constant)
    if isinstance(node, ast.Name):
        return node.id in functions
    if isinstance(node, ast.Tuple):
        return all(is_plain(part, functions, False) for part in node.elts)
    if isinstance(node, ast.List):
        return outer and all(is_plain(part, functions, False) for part in node.elts)
    if isinstance(node, ast.Dict):
        return outer and all(is_plain(part, functions, False) for part in node.keys + node.values)
    return False


def local_names(file):
    """Return the pairs (name, line) of all parameters and local variables of a file."""
    found = [(node.arg, node.lineno) for node in file.nodes(ast.arg)]
    for node in file.nodes(ast.Name):
        if isinstance(node.ctx, ast.Store) and file.in_function(node):
            found.append((node.id, node.lineno))
    for node in file.nodes(ast.FunctionDef):
        if isinstance(file.parent(node), FUNCTIONS):
            found.append((node.name, node.lineno))
    return found


def function_faults(file, package):
    """L4, L10, L21: decorators, plain default values, sizes, no annotations."""
    for node in file.nodes(ast.FunctionDef, ast.Lambda):
        for value in node.args.defaults + [value for value in node.args.kw_defaults if value is not None]:
            if isinstance(value, (ast.List, ast.Dict)) or not is_plain(value, set(), False):
                yield "L4", node.lineno
    for node in file.nodes(ast.FunctionDef):
        if node.end_lineno - node.lineno + 1 > 40:
            yield "L10", node.lineno
        method = isinstance(file.parent(node), ast.ClassDef)
        for word in node.decorator_list:
            named = isinstance(word, ast.Name) and word.id in ("property", "staticmethod", "classmethod")
            setter = isinstance(word, ast.Attribute) and word.attr == "setter"
            if not method or not (named or setter):
                yield "L4", node.lineno
        if node.returns is not None:
            yield "L21", node.lineno
    for node in file.nodes(ast.arg, ast.AnnAssign):
        if node.annotation is not None:
            yield "L21", node.lineno


def class_faults(file, package):
    """L5, L18, L26, L28: classes, their methods and where they stand."""
    for node in file.nodes(ast.ClassDef):
        if node.decorator_list or node.keywords:
            yield "L5", node.lineno
        names = [part.name for part in node.body if isinstance(part, ast.FunctionDef)]
        if len(names) != len(set(names)):
            yield "L18", node.lineno
        for part in node.body:
            if isinstance(part, ast.FunctionDef):
                yield from method_faults(part, package)
            elif not (isinstance(part, (ast.Expr, ast.Pass, ast.Assign))):
                yield "L5", part.lineno
    if package.properties & (package.methods | package.attributes | METHODS):
        yield "L5", 1
    if package.attributes & NOT_ATTRIBUTES:
        yield "L26", 1
    for node in file.nodes(ast.Name):
        if node.id in package.classes and not stands_as_class(file, node):
            yield "L18", node.lineno


def method_faults(part, package):
    """L5, L26, L28: one method of a class."""
    name = part.name
    if name.startswith("__"):
        if name[2:-2] not in DOUBLE:
            yield "L5", part.lineno
        returned = [node.value for node in ast.walk(part) if isinstance(node, ast.Return)]
        if name == "__init__" and returned:
            yield "L28", part.lineno
        if name in ("__eq__", "__repr__", "__str__", "__len__") and not isinstance(part.body[-1], ast.Return):
            yield "L28", part.lineno
    elif name not in OWN_METHODS_LIKE_BUILTIN:
        for value in ("", 0, [], {}, set(), b""):
            if hasattr(value, name):
                yield "L26", part.lineno


def stands_as_class(file, node):
    """Return whether the name of a class is called, a base, or in isinstance, except or raise."""
    parent = file.parent(node)
    if isinstance(parent, ast.Call):
        if parent.func is node:
            return True
        return isinstance(parent.func, ast.Name) and parent.func.id == "isinstance" and parent.args[1] is node
    if isinstance(parent, ast.Tuple):
        above = file.parent(parent)
        return isinstance(above, (ast.ExceptHandler, ast.Call))
    return isinstance(parent, (ast.ClassDef, ast.ExceptHandler, ast.Raise))


def statement_faults(file, package):
    """L6, L7, L19, L20: statements and expressions that are not in the subset."""
    barred = (ast.Global, ast.AsyncFunctionDef, ast.AsyncFor, ast.AsyncWith, ast.Await, ast.TryStar, ast.Yield)
    for node in file.nodes(*barred, ast.YieldFrom):
        yield "L6", node.lineno
    for node in file.nodes(ast.Constant):
        if isinstance(node.value, (float, complex)) or node.value is ...:
            yield "L7", node.lineno
    for node in file.nodes(ast.BinOp, ast.AugAssign):
        if isinstance(node.op, (ast.Div, ast.MatMult)):
            yield "L7", node.lineno
        if isinstance(node.op, ast.Pow) and not isinstance(getattr(node, "right", None), ast.Constant):
            yield "L27", node.lineno
    for node in file.nodes(ast.ExceptHandler):
        if node.type is None or file_names(node.type) & {"Exception", "TypeError", "AttributeError", "RuntimeError"}:
            yield "L19", node.lineno
    for node in file.nodes(ast.Raise):
        if node.exc is not None and not (isinstance(node.exc, ast.Call) and isinstance(node.exc.func, ast.Name)):
            yield "L19", node.lineno
    for node in file.nodes(ast.Compare):
        sides = [node.left] + node.comparators
        for at, sign in enumerate(node.ops):
            if isinstance(sign, (ast.Is, ast.IsNot)):
                if not any(isinstance(side, ast.Constant) and side.value in (None, True, False)
                           for side in sides[at:at + 2]):
                    yield "L20", node.lineno


def file_names(node):
    return {part.id for part in ast.walk(node) if isinstance(part, ast.Name)}


def name_faults(file, package):
    """L8, L12, L17: builtins, and names that are not used."""
    own = {name for name, _ in local_names(file)} | package.defined[file.name]
    for node in file.nodes(ast.Name):
        if hasattr(builtins, node.id) and node.id not in BUILTINS and node.id not in own:
            yield "L8", node.lineno
        if node.id == "_" and isinstance(node.ctx, ast.Load):
            yield "L12", node.lineno
    called = [(node.name, node.lineno) for node in file.nodes(ast.FunctionDef, ast.ClassDef)]
    called += [(node.attr, node.lineno) for node in file.nodes(ast.Attribute)]
    called += [(node.arg, node.lineno) for node in file.nodes(ast.keyword) if node.arg]
    stored = [(node.id, node.lineno) for node in file.nodes(ast.Name)] + local_names(file)
    for name, line in called + stored:
        if name in BARRED_ALWAYS or re.match(r"(f|tb|co|gi|cr|ag)_", name):
            yield "L17", line
        if name.startswith("__") and name[2:-2] not in DOUBLE:
            yield "L12", line
        if not re.fullmatch(r"_?[A-Za-z][A-Za-z0-9_]*|_|__[a-z]+__", name):
            yield "L12", line
    for name, line in stored:
        if name in BARRED_NAMES:
            yield "L17", line


def word_faults(file, package):
    """L17, L27: words, signs and escapes of the text itself."""
    lines = [node.lineno for node in file.docstrings]
    for token in tokenize.generate_tokens(io.StringIO(file.text).readline):
        line = token.start[0]
        if any(word in token.string for word in BARRED_INSIDE):
            yield "L17", line
        if token.type == tokenize.STRING:
            if "%" in token.string or re.search(r"\\[^nt\\'\"]", token.string.replace("\\\\", "")):
                yield "L27", line
        if token.type == tokenize.NAME and token.string in BARRED_WORDS | {"chr"}:
            yield "L17", line
        if token.type == tokenize.STRING and line not in lines:
            if set(re.findall(r"\w+", token.string)) & (BARRED_WORDS - {"type"}):
                yield "L17", line
            if re.match(r"^['\"](__.*__|.*\._+)['\"]$", token.string):
                yield "L27", line
    with warnings.catch_warnings(record=True) as told:
        warnings.simplefilter("always")
        compile(file.text, file.name, "exec")
    for warning in told:
        yield "L27", warning.lineno


def call_faults(file, package):
    """L22, L23, L25: what is called, and what is iterated at once."""
    for node in file.nodes(ast.Call):
        name = node.func.id if isinstance(node.func, ast.Name) else ""
        keywords = {word.arg for word in node.keywords}
        if name in BUILTINS and not keywords <= ALLOWED_KEYWORDS.get(name, set()):
            yield "L22", node.lineno
        if isinstance(node.func, ast.Attribute):
            word = node.func.attr
            if word not in METHODS | package.methods and not is_sort(file, node, package):
                yield "L25", node.lineno
            if word in VIEWS and not iterated_at_once(file, node):
                yield "L23", node.lineno
        if name in LAZY and not iterated_at_once(file, node):
            yield "L23", node.lineno
    for node in file.nodes(ast.GeneratorExp):
        parent = file.parent(node)
        name = parent.func.id if isinstance(parent, ast.Call) and isinstance(parent.func, ast.Name) else ""
        join = isinstance(parent, ast.Call) and isinstance(parent.func, ast.Attribute) and parent.func.attr == "join"
        if not join and name not in ("list", "tuple", "dict"):
            yield "L7", node.lineno
    for node in file.nodes(ast.Attribute):
        parent = file.parent(node)
        called = isinstance(parent, ast.Call) and parent.func is node
        known = package.attributes | package.properties
        if isinstance(node.ctx, ast.Load) and not called and node.attr not in known | {"setter"}:
            yield "L18", node.lineno


ALLOWED_KEYWORDS = {
    "sorted": {"key", "reverse"},
    "min": {"key", "default"},
    "max": {"key", "default"},
    "sum": {"start"},
    "enumerate": {"start"},
    "zip": {"strict"},
}


def is_sort(file, node, package):
    alone = isinstance(file.parent(node), ast.Expr)
    return node.func.attr == "sort" and alone and "__eq__" not in package.methods


def iterated_at_once(file, node):
    """Return whether a lazy thing stands where it is iterated on the spot."""
    parent = file.parent(node)
    if isinstance(parent, (ast.For, ast.comprehension)):
        return parent.iter is node
    if isinstance(parent, ast.Call) and isinstance(parent.func, ast.Name):
        if parent.func.id == "reversed":
            return isinstance(node.func, ast.Name) and node.func.id == "range"
        return parent.func.id in AT_ONCE and (parent.args[0] is node or parent.func.id == "zip")
    word = node.func.id if isinstance(node.func, ast.Name) else node.func.attr
    return isinstance(parent, ast.Compare) and isinstance(parent.ops[0], (ast.In, ast.NotIn)) and word in ("range", "keys")


def set_faults(file, package):
    """L24, L13: where a set may stand."""
    for node in file.nodes(ast.Set, ast.SetComp, ast.Call):
        if isinstance(node, ast.Call):
            if not (isinstance(node.func, ast.Name) and node.func.id in ("set", "frozenset")):
                continue
        parent = file.parent(node)
        while isinstance(parent, ast.BinOp) and isinstance(parent.op, (ast.Sub, ast.BitAnd, ast.BitOr, ast.BitXor)):
            parent = file.parent(parent)
        inside = isinstance(parent, ast.Call) and isinstance(parent.func, ast.Name)
        stored = isinstance(parent, ast.Assign) and file.in_function(parent) and isinstance(parent.targets[0], ast.Name)
        if not (inside and parent.func.id in ("len", "sorted")) and not isinstance(parent, ast.Compare) and not stored:
            yield "L24", node.lineno
        if isinstance(node, ast.Set) and not isinstance(parent, ast.Compare):
            if len([part for part in node.elts if isinstance(getattr(part, "value", ""), int)]) > 2:
                yield "L13", node.lineno


def changed_loop_faults(file, package):
    """L23: what a loop iterates over is not changed in it."""
    for loop in file.nodes(ast.For):
        over = ast.unparse(loop.iter)
        for node in ast.walk(ast.Module(loop.body, [])):
            if isinstance(node, ast.Call) and isinstance(node.func, ast.Attribute):
                changing = node.func.attr in "append clear extend insert pop remove reverse setdefault update".split()
                if changing and ast.unparse(node.func.value) == over:
                    yield "L23", node.lineno
            if isinstance(node, ast.Subscript) and not isinstance(node.ctx, ast.Load):
                if ast.unparse(node.value) == over:
                    yield "L23", node.lineno


CHECKS = (
    import_faults,
    module_faults,
    function_faults,
    class_faults,
    statement_faults,
    name_faults,
    word_faults,
    call_faults,
    set_faults,
    changed_loop_faults,
)

"""The rules L1 to L28 for the files of the package, as far as a test can see them.

The package uses little of what the rules allow. What it does not use, no test need tell apart: it is a fault here, also
where a rule would allow it in some form (generators, `try`, sets that are kept, operators, annotations ..).

`faults_of(files)` takes the sources by their names ("text.py") and returns the faults, tuples (rule, file, line).
"""

import ast
import builtins
import re

PACKAGE = "shortheld"

ALLOWED_BUILTINS = set(
    "len range enumerate zip min max sum abs sorted reversed int str bool list tuple dict set isinstance ord repr any "
    "all divmod super ValueError classmethod staticmethod".split())

ALLOWED_METHODS = set(
    "append clear copy count endswith extend find get index insert isalnum isalpha isdigit islower isspace isupper items "
    "join keys ljust lower lstrip partition pop remove replace reverse rfind rjust rpartition rsplit rstrip setdefault "
    "split splitlines startswith strip update upper values zfill bit_length".split())

NO_ATTRIBUTES = set(
    "items keys values pop update append clear extend insert remove reverse setdefault sort args encode decode hex "
    "fromhex format as_integer_ratio bit_count conjugate from_bytes is_integer to_bytes real imag numerator denominator "
    "format_map mro".split())

STATEMENTS = (ast.Assign, ast.AugAssign, ast.If, ast.While, ast.For, ast.Return, ast.Break, ast.Continue, ast.Pass,
              ast.Raise, ast.Expr)

EXPRESSIONS = (ast.Constant, ast.Name, ast.Attribute, ast.Subscript, ast.Slice, ast.BinOp, ast.UnaryOp, ast.BoolOp,
               ast.Compare, ast.IfExp, ast.Call, ast.Tuple, ast.List, ast.Dict, ast.ListComp, ast.DictComp,
               ast.JoinedStr, ast.FormattedValue, ast.Lambda, ast.Starred)

OPERATORS = (ast.Add, ast.Sub, ast.Mult, ast.FloorDiv, ast.Mod, ast.Pow, ast.BitAnd, ast.BitOr, ast.BitXor, ast.LShift,
             ast.RShift)

BARRED_NAMES = set(
    "register mro elements open input law version_info with_traceback add_note f_back tb_next co_names attrgetter "
    "breakpoint builtins compile copyright credits delattr dir eval exec exit gc getattr globals hasattr help id importlib "
    "license locals methodcaller os quit setattr type vars sys".split())

BARRED_WORDS = re.compile(
    r"\b(type|typing|typing_extensions|enum|Enum|IntEnum|StrEnum|Flag|IntFlag|Generic|Protocol|ABC|ABCMeta|namedtuple|"
    r"NamedTuple|TypedDict|TYPE_CHECKING|abstractmethod)\b|dataclass|overload|contextmanager")

BARRED_STARTS = re.compile(r"_(wall|pe_|dcw_|enum_|cm_|twin_re_|lay_|law_|stub_|sre|WallAttr)|"
                           r"_(cold|tuplegetter|outside|record|written_out|member_names)[0-9_]*$")

AT_ONCE = ("zip", "enumerate", "reversed", "range")
VIEWS = ("items", "keys", "values")
TAKERS = ("list", "tuple", "dict", "sorted", "sum", "any", "all", "enumerate", "zip", "min", "max")
CHANGERS = ("append", "clear", "extend", "insert", "pop", "remove", "reverse", "setdefault", "update")


def is_call(node, *names):
    """Whether a node calls one of these functions by its bare name."""
    return isinstance(node, ast.Call) and isinstance(node.func, ast.Name) and node.func.id in names


def is_plain(node):
    """Whether a node is a plain value: a constant, its negative, numbers reckoned with, lists, tuples and dicts of such."""
    if isinstance(node, ast.Constant):
        return True
    if isinstance(node, ast.UnaryOp):
        return isinstance(node.op, ast.USub) and is_plain(node.operand)
    if isinstance(node, ast.BinOp):
        return is_plain(node.left) and is_plain(node.right)
    if isinstance(node, (ast.Tuple, ast.List)):
        return all(is_plain(item) for item in node.elts)
    return isinstance(node, ast.Dict) and all(is_plain(item) for item in node.keys + node.values)


def names_bound(node):
    """The names that a target, a function or an import binds."""
    return [item.id for item in ast.walk(node) if isinstance(item, ast.Name) and isinstance(item.ctx, ast.Store)]


class File:
    """A file of the package, and its faults."""

    def __init__(self, name, source, package):
        self.name = name
        self.source = source
        self.package = package
        self.tree = ast.parse(source)
        self.nodes = list(ast.walk(self.tree))
        self.parents = {child: node for node in self.nodes for child in ast.iter_child_nodes(node)}
        self.functions = [node for node in self.nodes if isinstance(node, ast.FunctionDef)]
        self.classes = [node for node in self.nodes if isinstance(node, ast.ClassDef)]
        self.imports = [node for node in self.nodes if isinstance(node, (ast.Import, ast.ImportFrom))]
        self.faults = []

    def fault(self, rule, node):
        self.faults.append((rule, self.name, getattr(node, "lineno", 0)))

    def need(self, rule, node, holds):
        if not holds:
            self.fault(rule, node)

    def is_docstring(self, node):
        """Whether a statement is a string that stands first in a file, a class or a function."""
        text = isinstance(node.value, ast.Constant) and isinstance(node.value.value, str)
        return text and self.parents[node].body[:1] == [node]

    def check(self):
        for rule in (self.files, self.imports_checked, self.module_level, self.functions_checked, self.classes_checked,
                     self.statements, self.expressions, self.names, self.sizes, self.recursion, self.bindings,
                     self.class_uses, self.errors, self.identity, self.calls, self.iteration, self.sets, self.methods,
                     self.numbers_and_strings, self.double_underscore_methods):
            rule()
        return self.faults

    def files(self):
        self.need("L1", self.tree, re.fullmatch(r"[a-z0-9_]+\.py", self.name))
        stem = self.name[:-3]
        self.need("L14", self.tree, stem not in dir(builtins) and stem not in BARRED_NAMES and "test" not in stem)
        self.need("L14", self.tree, all(letter == "\n" or " " <= letter <= "~" for letter in self.source))

    def imports_checked(self):
        body = self.tree.body[1:] if ast.get_docstring(self.tree) is not None else self.tree.body
        for node in self.imports:
            self.need("L2", node, node in body[:len(self.imports)])
            if isinstance(node, ast.Import) or node.level or not node.module.startswith(PACKAGE + "."):
                self.fault("L2", node)
                continue
            other = self.package.get(node.module[len(PACKAGE) + 1:] + ".py")
            for alias in node.names:
                self.need("L2", node, alias.name != "*" and alias.asname is None)
                self.need("L16", node, other is not None and alias.name in defined_in(other))

    def module_level(self):
        for node in self.tree.body:
            if isinstance(node, ast.Assign):
                self.need("L3", node, len(node.targets) == 1 and isinstance(node.targets[0], ast.Name))
                self.need("L3", node, is_plain(node.value))
                inner = [item for item in ast.walk(node.value) if isinstance(item, (ast.List, ast.Dict))]
                self.need("L15", node, [item for item in inner if item != node.value] == [])
            elif not isinstance(node, (ast.ImportFrom, ast.FunctionDef, ast.ClassDef)):
                self.need("L3", node, isinstance(node, ast.Expr) and self.is_docstring(node))

    def functions_checked(self):
        for node in self.functions:
            parent = self.parents[node]
            self.need("L4", node, isinstance(parent, (ast.Module, ast.ClassDef)))
            for mark in node.decorator_list:
                self.need("L4", node, isinstance(parent, ast.ClassDef) and isinstance(mark, ast.Name)
                          and mark.id in ("classmethod", "staticmethod"))
            told = node.args
            self.need("L4", node, told.vararg is None and told.kwarg is None and not told.posonlyargs)
            self.need("L4", node, not told.kwonlyargs or isinstance(parent, ast.Module))
            for value in told.defaults + [value for value in told.kw_defaults if value is not None]:
                self.need("L4", node, is_plain(value) and not isinstance(value, (ast.List, ast.Dict, ast.BinOp)))
            annotated = [item for item in told.args + told.kwonlyargs if item.annotation is not None]
            self.need("L21", node, node.returns is None and not annotated)
        for node in self.nodes:
            self.need("L21", node, not isinstance(node, ast.AnnAssign))

    def classes_checked(self):
        for node in self.classes:
            self.need("L15", node, isinstance(self.parents[node], ast.Module))
            self.need("L5", node, not node.decorator_list and not node.keywords and len(node.bases) <= 1)
            for part in node.body:
                text = isinstance(part, ast.Expr) and self.is_docstring(part)
                self.need("L5", part, text or isinstance(part, ast.FunctionDef))
            for base in node.bases:
                self.need("L5", node, isinstance(base, ast.Name))
                self.need("L18", node, isinstance(base, ast.Name) and base.id not in ("StopIteration", "AttributeError"))

    def statements(self):
        for node in self.nodes:
            if isinstance(node, ast.stmt) and not isinstance(node, (ast.FunctionDef, ast.ClassDef, ast.ImportFrom)):
                self.need("L6", node, isinstance(node, STATEMENTS))
            if isinstance(node, ast.Expr) and not self.is_docstring(node):
                self.need("L6", node, isinstance(node.value, ast.Call))
            if isinstance(node, (ast.Assign, ast.For)):
                targets = node.targets if isinstance(node, ast.Assign) else [node.target]
                stars = [item for target in targets for item in ast.walk(target) if isinstance(item, ast.Starred)]
                self.need("L6", node, len(stars) <= 1)
                if stars and isinstance(node, ast.Assign):
                    self.need("L6", node, not isinstance(node.value, ast.Call))

    def expressions(self):
        for node in self.nodes:
            if isinstance(node, ast.expr):
                self.need("L7", node, isinstance(node, EXPRESSIONS))
            if isinstance(node, ast.Constant):
                self.need("L7", node, node.value is None or isinstance(node.value, (int, str)))
            if isinstance(node, (ast.BinOp, ast.AugAssign)):
                self.need("L7", node, isinstance(node.op, OPERATORS))
            if isinstance(node, ast.Starred):
                self.need("L7", node, isinstance(self.parents[node], (ast.List, ast.Tuple)))
            if isinstance(node, ast.FormattedValue):
                self.need("L7", node, node.format_spec is None and node.conversion == -1)
            if isinstance(node, ast.Lambda):
                self.need("L22", node, isinstance(self.parents[node], ast.keyword) and self.parents[node].arg == "key")

    def names(self):
        own = defined_in(self) | {name for node in self.functions for name in local_names(node)}
        for node in self.nodes:
            if isinstance(node, ast.Name):
                self.check_name(node, node.id)
                if isinstance(node.ctx, ast.Load) and node.id in dir(builtins):
                    self.need("L8", node, node.id in ALLOWED_BUILTINS)
                    self.need("L22", node, self.is_used_well(node))
                elif isinstance(node.ctx, ast.Load):
                    self.need("L12" if node.id == "_" else "L8", node, node.id != "_" and (
                        node.id in own or node.id in self.lambda_names()))
                elif isinstance(node.ctx, ast.Store):
                    self.need("L15", node, node.id not in dir(builtins))
            elif isinstance(node, (ast.FunctionDef, ast.ClassDef)):
                self.check_name(node, node.name)
            elif isinstance(node, ast.arg):
                self.check_name(node, node.arg)
                self.need("L15", node, node.arg not in dir(builtins))
            elif isinstance(node, ast.Attribute):
                self.check_name(node, node.attr)
        for line in self.source.split("\n"):
            self.need("L17", self.tree, line.lstrip().startswith(("#", '"')) or not BARRED_WORDS.search(line))
            self.need("L12", self.tree, "_wall" not in line and "_WallAttr" not in line)

    def lambda_names(self):
        return {part.arg for node in self.nodes if isinstance(node, ast.Lambda) for part in node.args.args}

    def is_used_well(self, node):
        """Whether a builtin is called, a base class, or one of the kinds in isinstance."""
        above = self.parents[node]
        if isinstance(above, ast.Tuple):
            above = self.parents[above]
        if isinstance(above, ast.keyword):
            return above.arg == "key" and node.id in ("len", "int", "str", "abs", "sum", "min", "max", "tuple")
        if isinstance(above, ast.Call) and above.func != node:
            return is_call(above, "isinstance") and node.id in ("int", "str", "bool", "list", "tuple", "dict")
        return isinstance(above, (ast.Call, ast.ClassDef)) or isinstance(above, ast.FunctionDef)

    def check_name(self, node, name):
        self.need("L17", node, name not in BARRED_NAMES)
        self.need("L12", node, re.fullmatch(r"_|_?[A-Za-z][A-Za-z0-9_]*|__(init|len)__", name) and not BARRED_STARTS.match(name))

    def sizes(self):
        lines = self.source.split("\n")
        self.need("L10", self.tree, len(lines) <= 399 and max(len(line) for line in lines) <= 120)
        for node in self.functions:
            self.need("L10", node, node.end_lineno - node.lineno + 1 <= 40)

    def recursion(self):
        """A function that calls itself is a fault, but for one that goes one call deep, into the gap of a repeat."""
        for node in self.functions:
            for inner in ast.walk(node):
                self.need("L11", node, not is_call(inner, node.name) or node.name == "count_seams")

    def bindings(self):
        bound = [alias.name for node in self.imports for alias in node.names]
        tables = {}
        for node in self.tree.body:
            if isinstance(node, (ast.FunctionDef, ast.ClassDef)):
                bound.append(node.name)
            elif isinstance(node, ast.Assign):
                bound += names_bound(node)
                if isinstance(node.value, (ast.List, ast.Dict)):
                    tables[names_bound(node)[0]] = True
        self.need("L15", self.tree, len(bound) == len(set(bound)))
        for name in bound:
            self.need("L15", self.tree, name not in dir(builtins))
        for node in self.functions:
            self.need("L15", node, not local_names(node) & set(bound))
        for node in self.nodes:
            if isinstance(node, ast.Name) and node.id in tables and isinstance(node.ctx, ast.Load):
                above = self.parents[node]
                read = isinstance(above, ast.Subscript) and isinstance(above.ctx, ast.Load) or isinstance(above, ast.Compare)
                self.need("L15", node, read or is_call(above, "len", "list", "dict", "sorted"))

    def class_uses(self):
        classes = {name for file in self.package.values() for name in class_names(file)}
        for node in self.nodes:
            if isinstance(node, ast.Name) and node.id in classes and isinstance(node.ctx, ast.Load):
                above = self.parents[node]
                if isinstance(above, ast.Tuple):
                    above = self.parents[above]
                called = isinstance(above, ast.Call) and (above.func == node or is_call(above, "isinstance"))
                read = isinstance(above, ast.Attribute) and isinstance(self.parents[above], ast.Call)
                self.need("L18", node, called or read or isinstance(above, ast.ClassDef))
        methods, attributes = methods_and_attributes(self.package)
        for node in self.classes:
            own = [part.name for part in node.body if isinstance(part, ast.FunctionDef)]
            self.need("L18", node, len(own) == len(set(own)))
            self.need("L18", node, not set(own) & attributes_of(node))
        for node in self.nodes:
            if isinstance(node, ast.Attribute) and isinstance(node.ctx, ast.Store):
                self.need("L26", node, node.attr not in NO_ATTRIBUTES)
                self.need("L18", node, root_name(node) is not None and root_name(node) not in classes)
            elif isinstance(node, ast.Attribute):
                called = isinstance(self.parents[node], ast.Call) and self.parents[node].func == node
                known = methods | ALLOWED_METHODS if called else attributes
                self.need("L25" if called else "L18", node, node.attr in known or node.attr == "__init__")

    def errors(self):
        for node in self.nodes:
            if isinstance(node, ast.Raise):
                self.need("L19", node, isinstance(node.exc, ast.Call) and isinstance(node.exc.func, ast.Name)
                          and node.exc.func.id in error_names(self.package) and node.cause is None)

    def identity(self):
        for node in self.nodes:
            if isinstance(node, ast.Compare):
                for operator, right in zip(node.ops, node.comparators):
                    if isinstance(operator, (ast.Is, ast.IsNot)):
                        self.need("L20", node, isinstance(right, ast.Constant)
                                  and (right.value is None or isinstance(right.value, bool)))

    def calls(self):
        allowed = {"sorted": ("key", "reverse"), "min": ("key", "default"), "max": ("key", "default"),
                   "sum": ("start",), "enumerate": ("start",), "zip": ("strict",)}
        for node in self.nodes:
            if isinstance(node, ast.Call):
                self.need("L22", node, isinstance(node.func, (ast.Name, ast.Attribute)))
                words = [word.arg for word in node.keywords]
                if isinstance(node.func, ast.Name) and node.func.id in dir(builtins):
                    self.need("L22", node, set(words) <= set(allowed.get(node.func.id, ())))
                elif isinstance(node.func, ast.Attribute) and node.func.attr in ALLOWED_METHODS:
                    self.need("L25", node, not words)

    def iteration(self):
        for node in self.nodes:
            view = isinstance(node, ast.Call) and isinstance(node.func, ast.Attribute) and node.func.attr in VIEWS
            if is_call(node, *AT_ONCE) or view:
                above = self.parents[node]
                at_once = isinstance(above, (ast.For, ast.comprehension)) and above.iter == node
                self.need("L23", node, at_once or is_call(above, *TAKERS) and above.args[0] == node)
            if isinstance(node, ast.For):
                self.need("L23", node, not self.changes(node.body, node.iter))

    def changes(self, body, gone_over):
        """Whether rows change something that they go over, as far as its words tell."""
        if isinstance(gone_over, ast.Call):
            gone_over = gone_over.func.value if isinstance(gone_over.func, ast.Attribute) else gone_over.args[0]
        word = ast.dump(gone_over)
        for row in body:
            for node in ast.walk(row):
                if isinstance(node, ast.Call) and isinstance(node.func, ast.Attribute) and node.func.attr in CHANGERS:
                    if ast.dump(node.func.value) == word:
                        return True
                if isinstance(node, ast.Subscript) and isinstance(node.ctx, ast.Store) and ast.dump(node.value) == word:
                    return True
        return False

    def sets(self):
        for node in self.nodes:
            if is_call(node, "set", "frozenset"):
                above = self.parents[node]
                self.need("L24", node, is_call(above, "sorted", "len") and not above.keywords)
            self.need("L13", node, not isinstance(node, (ast.Set, ast.SetComp)))
        for line in self.source.split("\n"):
            self.need("L13", self.tree, line.count("lambda") <= 1)

    def methods(self):
        for node in self.nodes:
            if isinstance(node, ast.Attribute) and node.attr in CHANGERS + VIEWS:
                self.need("L25", node, isinstance(self.parents[node], ast.Call) and self.parents[node].func == node)

    def numbers_and_strings(self):
        for node in self.nodes:
            if isinstance(node, ast.Constant) and isinstance(node.value, str):
                self.need("L27", node, chr(37) not in node.value and not node.value.startswith("__"))
            if isinstance(node, ast.Constant) and isinstance(node.value, int):
                self.need("L27", node, node.value < 10 ** 900)
            if isinstance(node, ast.BinOp) and isinstance(node.op, ast.Pow):
                self.need("L27", node, isinstance(node.right, ast.Constant) and 0 <= node.right.value <= 64)
        self.need("L27", self.tree, not re.search(r"\\[^nt'\"]", self.source.replace(2 * "\\", "")))
        self.need("L9", self.tree, not [node for node in self.nodes if is_call(node, "print", "open", "input")])

    def double_underscore_methods(self):
        for node in self.functions:
            if node.name.startswith("__"):
                self.need("L5", node, node.name in ("__init__", "__len__"))
                self.need("L28", node, isinstance(self.parents[node], ast.ClassDef))
                if node.name == "__init__":
                    self.need("L28", node, not [part for part in ast.walk(node) if isinstance(part, ast.Return)])
                else:
                    self.need("L28", node, isinstance(node.body[-1], ast.Return) and len(node.body) == 1
                              and is_call(node.body[-1].value, "len"))


def defined_in(file):
    """The names that a file binds at module level, its imports included."""
    names = {alias.name for node in file.imports for alias in node.names}
    for node in file.tree.body:
        if isinstance(node, (ast.FunctionDef, ast.ClassDef)):
            names.add(node.name)
        elif isinstance(node, ast.Assign):
            names.update(names_bound(node))
    return names


def local_names(function):
    """The parameters and variables of a function, those of its comprehensions included."""
    told = function.args
    return {part.arg for part in told.args + told.kwonlyargs} | set(names_bound(function))


def root_name(node):
    """The name with which a chain of attributes begins, None if it begins with something else."""
    while isinstance(node, ast.Attribute):
        node = node.value
    return node.id if isinstance(node, ast.Name) else None


def class_names(file):
    return [node.name for node in file.classes]


def error_names(package):
    """The names of the own errors: classes that are under ValueError, directly or through other ones."""
    bases = {node.name: [base.id for base in node.bases] for file in package.values() for node in file.classes}
    found = {"ValueError"}
    for _ in bases:
        found |= {name for name in bases if found & set(bases[name])}
    return found - {"ValueError"}


def attributes_of(node):
    """The attributes that the methods of a class assign to their own objects."""
    return {part.attr for part in ast.walk(node) if isinstance(part, ast.Attribute) and isinstance(part.ctx, ast.Store)
            and isinstance(part.value, ast.Name) and part.value.id == "self"}


def methods_and_attributes(package):
    """The names of all methods and of all attributes of the package."""
    methods, attributes = set(), set()
    for file in package.values():
        for node in file.classes:
            methods |= {part.name for part in node.body if isinstance(part, ast.FunctionDef)}
            attributes |= attributes_of(node)
    return methods, attributes


def cycles_in(package):
    """The files that import from each other, directly or through other files."""
    reached = {}
    for name, file in package.items():
        reached[name] = {node.module[len(PACKAGE) + 1:] + ".py" for node in file.imports
                         if isinstance(node, ast.ImportFrom) and node.module}
    for _ in package:
        for name in package:
            for other in sorted(reached[name]):
                reached[name] |= reached.get(other, set())
    return [name for name in sorted(package) if name in reached[name]]


def faults_of(files):
    package = {}
    for name, source in files.items():
        package[name] = File(name, source, package)
    faults = [("L16", name, 0) for name in cycles_in(package)]
    for name in sorted(package):
        faults += package[name].check()
    return faults

"""Looks through the files of the package for what shared/LANGUAGE.md bars, as far as the code shows it.

complaints(files) takes a dict of file names and texts, and returns a list of strings, each with the
number of a rule, the file and the line.
"""

import ast
import builtins
import re
import string

ALLOWED_BUILTINS = (
    "len range enumerate zip min max sum abs sorted reversed int str bool bytes list tuple dict set frozenset "
    "isinstance ord repr any all divmod pow getattr hasattr setattr iter next map type super property staticmethod "
    "classmethod Exception ValueError TypeError KeyError IndexError LookupError ZeroDivisionError ArithmeticError "
    "OverflowError RuntimeError NotImplementedError AttributeError StopIteration NotImplemented"
).split()
LIBRARY = {
    "heapq": "heappush heappop heapify heapreplace heappushpop",
    "math": "gcd lcm isqrt comb perm factorial",
    "itertools": "product combinations permutations chain accumulate pairwise islice zip_longest",
    "collections": "defaultdict deque",
}
METHODS = (
    "append clear copy count endswith extend find get index insert isalnum isalpha isdigit islower isspace isupper "
    "items join keys ljust lower lstrip partition pop remove replace reverse rfind rjust rpartition rsplit rstrip "
    "setdefault split splitlines startswith strip update upper values zfill bit_length title capitalize swapcase casefold "
    "center expandtabs removeprefix removesuffix rindex isascii isdecimal isnumeric istitle isidentifier isprintable "
    "add discard"
).split()
DUNDERS = (
    "init eq repr str len enter exit call iter lt le gt ge ne add sub mul floordiv mod pow and or xor lshift rshift "
    "neg pos invert abs bool contains getitem setitem"
).split()
NEVER = "register mro elements open input law version_info with_traceback add_note".split()
NOT_AS_NAMES = (
    "attrgetter breakpoint builtins compile copyright credits delattr dir eval exec exit gc globals help id importlib "
    "license locals methodcaller os quit vars sys"
).split()
WORDS = (
    "typing typing_extensions enum Enum IntEnum StrEnum Flag IntFlag Generic Protocol ABC ABCMeta namedtuple "
    "NamedTuple TypedDict TYPE_CHECKING abstractmethod"
).split()
NOT_AS_ATTRIBUTES = (
    "items keys values pop update append clear extend insert remove reverse setdefault sort args encode decode hex "
    "fromhex format as_integer_ratio bit_count conjugate from_bytes is_integer to_bytes format_map"
).split()
STATEMENTS = (
    ast.Assign, ast.AugAssign, ast.AnnAssign, ast.If, ast.While, ast.For, ast.Return, ast.Break, ast.Continue, ast.Pass,
    ast.Raise, ast.Assert, ast.Delete, ast.Nonlocal, ast.Match, ast.With, ast.Try, ast.Expr, ast.FunctionDef,
    ast.ClassDef, ast.ImportFrom,
)  # fmt: skip
FUNCTIONS = (ast.FunctionDef, ast.Lambda)
LISTS_ONLY = ("any", "all", "min", "max", "sum", "sorted")
AT_ONCE = ("zip", "enumerate", "reversed")


def complaints(files):
    package = Package(files)
    for name in files:
        package.look_at(name)
    package.look_at_imports()
    package.look_at_classes()
    return package.found


class Package:
    def __init__(self, files):
        self.files = files
        self.trees = {name: ast.parse(text) for name, text in files.items()}
        self.found = []
        everything = [node for tree in self.trees.values() for node in ast.walk(tree)]
        classes = [node for node in everything if isinstance(node, ast.ClassDef)]
        self.own_classes = [node.name for node in classes]
        own = [part for node in classes for part in node.body if isinstance(part, ast.FunctionDef)]
        self.own_methods = [part.name for part in own if not part.decorator_list]
        self.properties = [part.name for part in own if part.decorator_list]
        self.attributes = [
            node.attr for node in everything if isinstance(node, ast.Attribute) and isinstance(node.ctx, ast.Store)
        ]
        self.generators = [
            node.name
            for node in everything
            if isinstance(node, ast.FunctionDef) and any(isinstance(part, ast.Yield) for part in ast.walk(node))
        ]

    def say(self, rule, name, node, why):
        self.found.append(f"{rule} {name}:{getattr(node, 'lineno', node)}: {why}")

    def look_at(self, name):
        self.look_at_text(name)
        self.look_at_top(name)
        self.look_at_shadows(name)
        for node in ast.walk(self.trees[name]):
            self.look_at_kind(name, node)
            self.look_at_names(name, node)
            if isinstance(node, ast.Call):
                self.look_at_call(name, node)
            if isinstance(node, ast.Constant):
                self.look_at_constant(name, node)
            if isinstance(node, (ast.Raise, ast.ExceptHandler)):
                self.look_at_errors(name, node)

    def look_at_text(self, name):
        text = self.files[name]
        if not re.fullmatch(r"[a-z0-9_]+\.py", name):
            self.say("L1", name, 0, "the name of the file")
        if set(text) - set(string.printable[:95]) - {"\n"}:
            self.say("L14", name, 0, "signs beyond the blank to ~")
        lines = text.split("\n")
        if text and (lines[-1] != "" or len(lines) - 1 > 399):
            self.say("L10", name, len(lines), "the length of the file, or no line feed at its end")
        for at, line in enumerate(lines):
            if len(line) > 120:
                self.say("L10", name, at + 1, "a long line")

    def look_at_top(self, name):
        names = []
        plain = False
        for node in self.trees[name].body:
            if isinstance(node, ast.ImportFrom):
                names.extend(alias.name for alias in node.names)
                if plain:
                    self.say("L2", name, node, "an import that does not stand at the top")
                continue
            if isinstance(node, ast.Expr) and isinstance(node.value, ast.Constant):
                continue
            plain = True
            if isinstance(node, (ast.FunctionDef, ast.ClassDef)):
                names.append(node.name)
            elif isinstance(node, ast.Assign) and isinstance(node.targets[0], ast.Name) and len(node.targets) == 1:
                names.append(node.targets[0].id)
                self.look_at_value(name, node.value)
            else:
                self.say("L3", name, node, "what may not stand at module level")
        if len(set(names)) < len(names):
            self.say("L15", name, 0, "a name that is bound twice")

    def look_at_shadows(self, name):
        """Nothing in a function has the name of an import, a function or a class of its file."""
        tree = self.trees[name]
        top = [alias.name for node in tree.body if isinstance(node, ast.ImportFrom) for alias in node.names]
        top += self.defined(tree)
        for function in [node for node in ast.walk(tree) if isinstance(node, ast.FunctionDef)]:
            for node in ast.walk(function):
                stored = isinstance(node, ast.Name) and isinstance(node.ctx, ast.Store) and node.id in top
                if stored or (isinstance(node, ast.arg) and node.arg in top):
                    self.say("L15", name, node, "a name that means something in the file")

    def look_at_value(self, name, value):
        nested = [node for node in ast.walk(value) if node is not value and isinstance(node, (ast.List, ast.Dict))]
        calls = [node for node in ast.walk(value) if isinstance(node, (ast.Call, ast.comprehension, ast.Set))]
        if nested or calls:
            self.say("L15", name, value, "a value at module level")

    def look_at_kind(self, name, node):
        if isinstance(node, ast.stmt) and not isinstance(node, STATEMENTS):
            self.say("L6", name, node, "a statement")
        if isinstance(node, ast.FunctionDef):
            if node.end_lineno - node.lineno + 1 > 40:
                self.say("L10", name, node, "a long function")
            plain = [one for one in node.decorator_list if not isinstance(one, ast.Name) or one.id != "property"]
            if plain:
                self.say("L4", name, node, "a decorator")
        if isinstance(node, (ast.GeneratorExp, ast.Await, ast.NamedExpr, ast.Div)):
            self.say("L7", name, node, "a kind of expression that this package does without")
        if isinstance(node, ast.Set) and len(node.elts) > 2:
            self.say("L13", name, node, "a great set")
        if isinstance(node, ast.Compare):
            for sign, right in zip(node.ops, node.comparators):
                if isinstance(sign, (ast.Is, ast.IsNot)) and not (
                    isinstance(right, ast.Constant) and right.value in (None, True, False)
                ):
                    self.say("L20", name, node, "is")

    def look_at_names(self, name, node):
        stored = []
        if isinstance(node, ast.Name):
            stored = [node.id] if not isinstance(node.ctx, ast.Load) else []
            if hasattr(builtins, node.id) and node.id not in ALLOWED_BUILTINS:
                self.say("L8", name, node, node.id)
        elif isinstance(node, (ast.FunctionDef, ast.ClassDef)):
            stored = [node.name]
        elif isinstance(node, ast.arg):
            stored = [node.arg]
        elif isinstance(node, ast.Attribute) and isinstance(node.ctx, ast.Store):
            if node.attr in NOT_AS_ATTRIBUTES:
                self.say("L26", name, node, node.attr)
        for word in stored:
            if word.startswith("__") and word.strip("_") in DUNDERS and word == f"__{word.strip('_')}__":
                continue
            if not re.fullmatch(r"_|_?[A-Za-z][A-Za-z0-9_]*", word) or re.match(r"_(wall|law|pe_|enum_|stub_)", word):
                self.say("L12", name, node, word)
            if hasattr(builtins, word) or word in NEVER + NOT_AS_NAMES + WORDS:
                self.say("L15", name, node, word)

    def look_at_call(self, name, node):
        if isinstance(node.func, ast.Attribute):
            if node.func.attr not in METHODS + self.own_methods:
                self.say("L25", name, node, node.func.attr)
            if node.func.attr not in self.own_methods and node.keywords:
                self.say("L22", name, node, "a keyword of a builtin's method")
        if isinstance(node.func, ast.Name):
            word = node.func.id
            if word in LISTS_ONLY and any(isinstance(part, ast.GeneratorExp) for part in node.args):
                self.say("L7", name, node, "a generator expression where a list must stand")
            allowed = {"sorted": ["key", "reverse"], "min": ["key", "default"], "max": ["key", "default"]}
            if hasattr(builtins, word) and [one for one in node.keywords if one.arg not in allowed.get(word, [])]:
                self.say("L22", name, node, "a keyword of a builtin")
            if word in ("open", "print", "chr", "globals"):
                self.say("L8", name, node, word)

    def look_at_constant(self, name, node):
        if isinstance(node.value, (float, complex)):
            self.say("L7", name, node, "a float")
        if isinstance(node.value, str):
            if "%" in node.value or re.search(r"\b(" + "|".join(WORDS) + r")\b", node.value):
                self.say("L27", name, node, "a string")
            if re.search("dataclass|overload|contextmanager|_wall|_WallAttr", node.value):
                self.say("L17", name, node, "a string")

    def look_at_errors(self, name, node):
        if isinstance(node, ast.Raise):
            made = node.exc.func if isinstance(node.exc, ast.Call) else None
            if node.exc is not None and (not isinstance(made, ast.Name) or made.id not in self.own_classes):
                self.say("L19", name, node, "what is raised")
            return
        caught = node.elts if isinstance(node.type, ast.Tuple) else [node.type]
        for one in caught:
            known = self.own_classes + ["KeyError", "ZeroDivisionError", "IndexError", "ValueError", "LookupError"]
            if not isinstance(one, ast.Name) or one.id not in known:
                self.say("L19", name, node, "what is caught")

    def look_at_imports(self):
        edges = {name: [] for name in self.files}
        for name, tree in self.trees.items():
            for node in ast.walk(tree):
                if isinstance(node, ast.Import):
                    self.say("L16", name, node, "an import of a module")
                if isinstance(node, ast.ImportFrom):
                    self.look_at_import(name, node, edges[name])
        for name in edges:
            if name in self.reached(edges, name):
                self.say("L16", name, 0, "files that import from each other")

    def look_at_import(self, name, node, edges):
        if node.level or any(alias.asname for alias in node.names):
            self.say("L2", name, node, "an import with a dot or an as")
            return
        if node.module in LIBRARY:
            bad = [alias.name for alias in node.names if alias.name not in LIBRARY[node.module].split()]
        else:
            package, _, file = node.module.partition(".")
            tree = self.trees.get(f"{file}.py", ast.parse("")) if package == "rowqueue" else ast.parse("")
            edges.append(f"{file}.py")
            bad = [alias.name for alias in node.names if alias.name not in self.defined(tree)]
        if bad:
            self.say("L2", name, node, f"an import of {bad}")
        used = [part.id for part in ast.walk(self.trees[name]) if isinstance(part, ast.Name)]
        for alias in node.names:
            if alias.name not in used:
                self.say("unused", name, node, alias.name)

    def defined(self, tree):
        plain = [node.targets[0].id for node in tree.body if isinstance(node, ast.Assign)]
        return plain + [node.name for node in tree.body if isinstance(node, (ast.FunctionDef, ast.ClassDef))]

    def reached(self, edges, name):
        found, waiting = [], list(edges[name])
        while waiting:
            other = waiting.pop()
            if other not in found:
                found.append(other)
                waiting.extend(edges.get(other, []))
        return found

    def look_at_double_underscores(self, name, tree):
        """L28, and what L5 lets an operator change: nothing that it did not create itself."""
        methods = [part for node in ast.walk(tree) if isinstance(node, ast.ClassDef) for part in node.body]
        for method in [part for part in methods if isinstance(part, ast.FunctionDef) and part.name.startswith("__")]:
            returned = [part.value for part in ast.walk(method) if isinstance(part, ast.Return)]
            if method.name == "__init__" and returned:
                self.say("L28", name, method, "what __init__ returns")
            if method.name in ("__len__", "__repr__", "__str__"):
                calls = {"__len__": ["len"], "__repr__": ["str", "repr"], "__str__": ["str", "repr"]}[method.name]
                texts = [isinstance(one, (ast.Constant, ast.JoinedStr)) for one in returned]
                made = [self.calls_one_of(one, calls) for one in returned]
                plain = [text or call for text, call in zip(texts, made)]
                if not isinstance(method.body[-1], ast.Return) or not all(plain):
                    self.say("L28", name, method, f"what {method.name} returns")
            if method.name not in ("__init__", "__setitem__", "__call__"):
                for part in ast.walk(method):
                    stored = isinstance(part, ast.Attribute) and isinstance(part.ctx, ast.Store)
                    if stored or isinstance(part, ast.AugAssign):
                        self.say("L5", name, part, f"what {method.name} changes")

    def calls_one_of(self, node, names):
        return isinstance(node, ast.Call) and isinstance(node.func, ast.Name) and node.func.id in names

    def look_at_classes(self):
        for word in self.attributes:
            if word in self.own_methods:
                self.say("L18", "package", 0, f"{word} is a method and an attribute")
            if word in self.properties:
                self.say("L5", "package", 0, f"{word} is a property and an attribute")
        for word in self.own_methods + self.properties:
            if word in NOT_AS_ATTRIBUTES + METHODS and word not in ("add", "discard"):
                self.say("L26", "package", 0, f"{word} is a method of a builtin value")
        for name, tree in self.trees.items():
            self.look_at_double_underscores(name, tree)
            for node in ast.walk(tree):
                if isinstance(node, ast.FunctionDef) and node.name in self.generators:
                    if not any(isinstance(part, ast.Yield) for part in ast.walk(node)):
                        self.say("L23", name, node, "a name of a generator")
                if isinstance(node, ast.Assign) and isinstance(node.value, ast.Call):
                    made = node.value.func
                    if isinstance(made, ast.Name) and made.id in AT_ONCE + tuple(self.generators):
                        self.say("L23", name, node, "what should be iterated at once")

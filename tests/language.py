"""A reader of the program that looks for what ../shared/LANGUAGE.md does not allow.

It knows the rules that bear on how this program is written, and is narrower than some of them: what a rule allows and
the program does without, it reports, too.
"""

import ast
import builtins
import re

from tests.purity import MODIFIERS

PACKAGE = "movedstates"
BUILTINS = set("""len range enumerate zip min max sum abs sorted reversed int str bool list tuple dict set isinstance ord repr
any all divmod iter super property staticmethod classmethod ValueError NotImplemented""".split())
METHODS = set("""append clear copy count endswith extend find get index insert isalnum isalpha isdigit islower isspace isupper
items join keys ljust lower lstrip partition pop remove replace reverse rfind rjust rpartition rsplit rstrip setdefault split
splitlines startswith strip update upper values zfill bit_length add discard""".split())
DOUBLE = {"__init__", "__eq__", "__repr__", "__str__", "__len__", "__enter__", "__exit__", "__call__", "__iter__", "__add__",
          "__contains__", "__bool__"}
NEVER = set("register mro elements open input law version_info with_traceback add_note".split())
NOT_NAMES = set("""attrgetter breakpoint builtins compile copyright credits delattr dir eval exec exit gc getattr globals hasattr
help id importlib license locals methodcaller os quit setattr super type vars sys format format_map""".split())
WORDS = re.compile(r"\b(type|typing|typing_extensions|enum|Enum|IntEnum|StrEnum|Flag|IntFlag|Generic|Protocol|ABC|ABCMeta|"
                   r"namedtuple|NamedTuple|TypedDict|TYPE_CHECKING|abstractmethod|_wall|_WallAttr)\b|dataclass|overload|contextmanager")
BAD_STARTS = ("_wall", "_pe_", "_dcw_", "_enum_", "_cm_", "_twin_re_", "_lay_", "_law_", "_stub_", "_sre", "_WallAttr")
BAD_NAMES = re.compile(r"(_cold|_tuplegetter|_outside|_record|_written_out|_member_names)[0-9_]*")
NOT_ALLOWED = (ast.Global, ast.Nonlocal, ast.AsyncFunctionDef, ast.AsyncFor, ast.AsyncWith, ast.Await, ast.Match, ast.Div,
               ast.Import, ast.MatMult, ast.AnnAssign, ast.NamedExpr, ast.Set)
SPOT_CALLS = {"zip", "enumerate", "reversed", "range"}
SPOT_METHODS = {"items", "keys", "values"}
SPOT_TAKERS = {"list", "tuple", "dict", "sorted", "sum", "enumerate", "zip", "min", "max"}
TAKE_LISTS = {"any", "all", "min", "max", "sum", "sorted"}
BUILTIN_VALUES = ("", 0, [], {}, set(), b"", ())


class Reader:
    """One file of the package."""

    def __init__(self, name, text, defined):
        self.name = name
        self.text = text
        self.tree = ast.parse(text)
        self.defined = defined
        self.found = []
        self.parents = {child: node for node in ast.walk(self.tree) for child in ast.iter_child_nodes(node)}

    def say(self, rule, node, what):
        self.found.append(f"{rule} {self.name}:{getattr(node, 'lineno', node)} {what}")

    def read(self):
        self.characters()
        self.module_level()
        for node in ast.walk(self.tree):
            for look in (self.statement, self.name_used, self.attribute, self.call, self.on_the_spot, self.sets, self.text_value,
                         self.walk):
                look(node)
            if isinstance(node, ast.FunctionDef):
                self.function(node)
            if isinstance(node, ast.ClassDef):
                self.class_body(node)
        return self.found

    def characters(self):
        lines = self.text.split("\n")
        if len(lines) - 1 > 399:
            self.say("L10", 399, "a file is too long")
        for at, line in enumerate(lines, 1):
            if len(line) > 120:
                self.say("L10", at, "a line is too long")
            if any(not " " <= sign <= "~" for sign in line):
                self.say("L14", at, "a character")
        code = ast.unparse(ast.fix_missing_locations(without_docstrings(ast.parse(self.text))))
        for word in WORDS.finditer(code):
            self.say("L17", 0, word.group())

    def module_level(self):
        bound = []
        imports_end = False
        for at, node in enumerate(self.tree.body):
            if isinstance(node, ast.ImportFrom):
                if imports_end:
                    self.say("L2", node, "an import behind other things")
                self.imported(node)
                bound += [alias.name for alias in node.names]
                continue
            if at > 0:
                imports_end = True
            if isinstance(node, (ast.FunctionDef, ast.ClassDef)):
                bound.append(node.name)
            elif isinstance(node, ast.Assign):
                if len(node.targets) != 1 or not isinstance(node.targets[0], ast.Name) or not self.plain(node.value):
                    self.say("L3", node, "an assignment")
                else:
                    bound.append(node.targets[0].id)
            elif not (at == 0 and is_text(node)):
                self.say("L3", node, "a statement at module level")
        for name in bound:
            if bound.count(name) > 1:
                self.say("L15", 0, f"{name} is bound twice")
        self.module_names = set(bound)

    def plain(self, value):
        return all(isinstance(node, (ast.Constant, ast.Tuple, ast.List, ast.Dict, ast.Name, ast.Load, ast.UnaryOp, ast.USub))
                   for node in ast.walk(value))

    def imported(self, node):
        module = node.module or ""
        if node.level or not module.startswith(PACKAGE + "."):
            self.say("L2", node, "an import")
            return
        for alias in node.names:
            if alias.asname or alias.name not in self.defined.get(module[len(PACKAGE) + 1:], ()):
                self.say("L16", node, f"{alias.name} is not defined there")

    def statement(self, node):
        if isinstance(node, NOT_ALLOWED):
            self.say("L6", node, type(node).__name__)
        if isinstance(node, ast.With):
            self.with_statement(node)
        if isinstance(node, ast.Try) and node.finalbody:
            self.say("L6", node, "finally")
        if isinstance(node, ast.ExceptHandler):
            if not isinstance(node.type, ast.Name) or is_builtin(node.type.id) and node.type.id != "KeyError":
                self.say("L19", node, "what is caught")
        if isinstance(node, ast.Raise) and node.exc is not None:
            if not (isinstance(node.exc, ast.Call) and isinstance(node.exc.func, ast.Name)):
                self.say("L19", node, "what is raised")
            if node.cause is not None and not (isinstance(node.cause, ast.Constant) and node.cause.value is None):
                self.say("L19", node, "raise from")
        if isinstance(node, ast.Compare):
            for operator, right in zip(node.ops, node.comparators):
                if isinstance(operator, (ast.Is, ast.IsNot)) and not isinstance(right, ast.Constant):
                    self.say("L20", node, "is")
        if isinstance(node, ast.Constant) and isinstance(node.value, (float, bytes, complex)):
            self.say("L7", node, "a value")
        if isinstance(node, ast.BinOp) and isinstance(node.op, ast.Pow):
            self.say("L27", node, "a power")
        if isinstance(node, (ast.GeneratorExp,)):
            self.say("L7", node, "a generator expression")

    def with_statement(self, node):
        for item in node.items:
            given = isinstance(item.context_expr, (ast.Call, ast.Name, ast.Attribute))
            if not given or not isinstance(item.optional_vars, (ast.Name, type(None))):
                self.say("L6", node, "a with statement")
        if any(isinstance(one, (ast.Yield, ast.YieldFrom)) for one in ast.walk(node)):
            self.say("L23", node, "a yield under a with statement")

    def exit_row(self, node):
        """Rows of __exit__ assign names, attributes and literals to attributes, and do nothing else."""
        attribute = isinstance(node, ast.Assign) and len(node.targets) == 1 and isinstance(node.targets[0], ast.Attribute)
        if not isinstance(node, ast.Pass) and not (attribute and isinstance(node.value, (ast.Name, ast.Attribute, ast.Constant))):
            self.say("L6", node, "a row of __exit__")

    def text_value(self, node):
        if isinstance(node, ast.Constant) and isinstance(node.value, str):
            if "%" in node.value or node.value.endswith(("._", ".__")) or re.fullmatch(r"__.*__", node.value):
                self.say("L27", node, "a string")
        if isinstance(node, ast.JoinedStr):
            for part in ast.walk(node):
                if isinstance(part, ast.FormattedValue):
                    if any(isinstance(inner, ast.Constant) and isinstance(inner.value, str) for inner in ast.walk(part.value)):
                        self.say("L27", node, "a string in the braces of an f-string")

    def name_used(self, node):
        names = []
        if isinstance(node, ast.Name):
            names.append(node.id)
            if isinstance(node.ctx, ast.Load) and is_builtin(node.id) and node.id not in BUILTINS:
                self.say("L8", node, node.id)
            if isinstance(node.ctx, ast.Store) and is_builtin(node.id):
                self.say("L15", node, f"{node.id} is a builtin")
            if isinstance(node.ctx, ast.Load) and node.id == "_":
                self.say("L12", node, "_ is read")
        if isinstance(node, ast.arg):
            names.append(node.arg)
            if is_builtin(node.arg) or node.annotation is not None:
                self.say("L15", node, node.arg)
        if isinstance(node, (ast.FunctionDef, ast.ClassDef)):
            names.append(node.name)
            if is_builtin(node.name):
                self.say("L15", node, node.name)
        if isinstance(node, ast.keyword) and node.arg is not None:
            names.append(node.arg)
        for name in names:
            self.spelling(node, name)
            if name in NOT_NAMES and not (name == "super" and isinstance(node, ast.Name)):
                self.say("L17", node, name)

    def spelling(self, node, name):
        known = name in DOUBLE or name == "_" or re.fullmatch(r"_?[A-Za-z][A-Za-z0-9_]*", name)
        if not known or name.startswith(BAD_STARTS) or BAD_NAMES.fullmatch(name):
            self.say("L12", node, name)
        if name in NEVER:
            self.say("L17", node, name)

    def attribute(self, node):
        if isinstance(node, ast.Attribute):
            self.spelling(node, node.attr)
            if node.attr in ("format", "format_map", "mro", "args", "sort"):
                self.say("L26", node, node.attr)
            builtin = any(hasattr(value, node.attr) for value in BUILTIN_VALUES)
            if builtin and node.attr not in METHODS and node.attr not in DOUBLE:
                self.say("L25", node, node.attr)
            parent = self.parents[node]
            called = isinstance(parent, ast.Call) and parent.func is node
            if builtin and node.attr not in DOUBLE and not called:
                self.say("L25", node, f"{node.attr} is not called")
            if isinstance(node.value, ast.Name) and node.value.id in self.defined["own classes"]:
                if node.attr not in self.defined["class methods"]:
                    self.say("L18", node, "read off a class")

    def call(self, node):
        if not isinstance(node, ast.Call):
            return
        if isinstance(node.func, ast.Name) and node.func.id == "super":
            above = self.parents[node]
            called = isinstance(above, ast.Attribute) and isinstance(self.parents[above], ast.Call) and self.parents[above].func is above
            if not called or above.attr in DOUBLE - {"__init__"} or node.args or node.keywords:
                self.say("L5", node, "super")
        if isinstance(node.func, ast.Name) and is_builtin(node.func.id):
            allowed = {"sorted": {"key", "reverse"}, "min": {"key", "default"}, "max": {"key", "default"}, "sum": {"start"},
                       "enumerate": {"start"}}.get(node.func.id, set())
            if any(keyword.arg not in allowed for keyword in node.keywords):
                self.say("L22", node, "a keyword of a builtin")
        if isinstance(node.func, ast.Name) and node.func.id in TAKE_LISTS and any(
                isinstance(argument, ast.GeneratorExp) for argument in node.args):
            self.say("L7", node, "a generator expression where there is __eq__")
        if isinstance(node.func, (ast.Lambda, ast.Constant)):
            self.say("L7", node, "what is called")

    def on_the_spot(self, node):
        if not isinstance(node, ast.Call):
            return
        method = isinstance(node.func, ast.Attribute) and node.func.attr in SPOT_METHODS
        name = node.func.id if isinstance(node.func, ast.Name) else None
        generator = name in self.defined["generators"]
        if not (method or name in SPOT_CALLS or generator):
            return
        above = self.parents[node]
        taken = isinstance(above, ast.Call) and isinstance(above.func, ast.Name) and above.func.id in SPOT_TAKERS
        looped = isinstance(above, (ast.For, ast.comprehension)) and above.iter is node
        kept = name == "range" and isinstance(above, ast.Assign)
        if not (taken or looped or kept):
            self.say("L23", node, "not iterated at once")

    def walk(self, node):
        """What is walked is not changed meanwhile. Of attributes and items none is: two of them may be one list."""
        if isinstance(node, ast.For):
            heads, rows = [node.iter], node.body
        elif isinstance(node, (ast.ListComp, ast.SetComp, ast.DictComp)):
            heads, rows = [one.iter for one in node.generators], [node]
        else:
            return
        walked = [one for head in heads for one in what_is_walked(head)]
        for one in what_is_changed(rows):
            if any(ast.unparse(one) == ast.unparse(other) or not isinstance(one, ast.Name) and not isinstance(other, ast.Name)
                   for other in walked):
                self.say("L23", one, f"{ast.unparse(one)} is changed in a loop")

    def sets(self, node):
        made = isinstance(node, ast.SetComp) or (
            isinstance(node, ast.Call) and isinstance(node.func, ast.Name) and node.func.id in ("set", "frozenset"))
        if not made:
            return
        above = self.parents[node]
        while isinstance(above, ast.BinOp) and isinstance(above.op, (ast.Sub, ast.BitAnd, ast.BitOr, ast.BitXor)):
            above = self.parents[above]
        compared = isinstance(above, ast.Compare) and len(above.ops) == 1
        taken = isinstance(above, ast.Call) and isinstance(above.func, ast.Name) and above.func.id in ("sorted", "len")
        if not (compared or taken) or (taken and above.keywords):
            self.say("L24", node, "a set")

    def function(self, node):
        if node.end_lineno - node.lineno + 1 + len(node.decorator_list) > 40:
            self.say("L10", node, "a function is too long")
        for decorator in node.decorator_list:
            if not (isinstance(decorator, ast.Name) and decorator.id in ("property", "staticmethod", "classmethod")):
                self.say("L4", node, "a decorator")
        if node.returns is not None:
            self.say("L21", node, "an annotation")
        if node.args.kwarg or node.args.posonlyargs:
            self.say("L4", node, "a parameter")
        for default in [*node.args.defaults, *[one for one in node.args.kw_defaults if one is not None]]:
            if not self.plain(default) or isinstance(default, (ast.List, ast.Dict)):
                self.say("L4", node, "a default value")
        bound = [one.arg for one in [*node.args.args, *node.args.kwonlyargs]]
        bound += [one.id for one in ast.walk(node) if isinstance(one, ast.Name) and isinstance(one.ctx, ast.Store)]
        for name in bound:
            if name in self.defined["own classes"] or name in self.imports() or name in self.defined["generators"]:
                self.say("L15", node, f"{name} has another meaning")
        if node.name.startswith("__") and node.name not in DOUBLE:
            self.say("L5", node, node.name)
        self.double(node)

    def double(self, node):
        body = node.body[1:] if is_text(node.body[0]) else node.body
        only = ast.unparse(body[0]) if len(body) == 1 else ""
        if node.name == "__exit__":
            for row in body:
                self.exit_row(row)
        if node.name in ("__enter__", "__exit__") and len(node.args.args) != {"__enter__": 1, "__exit__": 4}[node.name]:
            self.say("L6", node, node.name)
        if node.name == "__iter__" and not re.fullmatch(r"return iter\(self\.\w+\)", only):
            self.say("L5", node, node.name)
        if node.name == "__len__" and not re.fullmatch(r"return len\(self\.\w+\)", only):
            self.say("L28", node, node.name)
        # Python writes some of the comparisons in parentheses.
        equal = re.sub(r"\((self\.\w+ == other\.\w+)\)", r"\1", only)
        if node.name == "__eq__" and not re.fullmatch(r"return isinstance\(other, \w+\)( and self\.(\w+) == other\.\2)+", equal):
            self.say("L28", node, node.name)

    def imports(self):
        return [alias.name for node in self.tree.body if isinstance(node, ast.ImportFrom) for alias in node.names]

    def class_body(self, node):
        if node.decorator_list or node.keywords:
            self.say("L5", node, "a class")
        names = []
        for at, part in enumerate(node.body):
            if isinstance(part, ast.FunctionDef):
                names.append(part.name)
            elif isinstance(part, ast.Assign) and self.plain(part.value):
                names += [target.id for target in part.targets]
            elif not (at == 0 and is_text(part)):
                self.say("L5", part, "a part of a class")
        for name in names:
            if names.count(name) > 1:
                self.say("L18", node, f"{name} is defined twice")
        stored = {one.attr for one in ast.walk(node) if isinstance(one, ast.Attribute) and isinstance(one.ctx, ast.Store)}
        for name in stored & set(names):
            self.say("L18", node, f"{name} is a method and an attribute")


def what_is_walked(head):
    """The names, attributes and items that a loop with this head walks."""
    if isinstance(head, (ast.Name, ast.Attribute, ast.Subscript)):
        return [head]
    parts = []
    if isinstance(head, ast.IfExp):
        parts = [head.body, head.orelse]
    if isinstance(head, ast.BoolOp):
        parts = head.values
    if isinstance(head, ast.Call) and isinstance(head.func, ast.Name) and head.func.id in SPOT_CALLS - {"range"}:
        parts = head.args
    if isinstance(head, ast.Call) and isinstance(head.func, ast.Attribute) and head.func.attr in SPOT_METHODS:
        parts = [head.func.value]
    return [one for part in parts for one in what_is_walked(part)]


def what_is_changed(rows):
    """The names, attributes and items that these rows change."""
    found = []
    for node in [one for row in rows for one in ast.walk(row)]:
        if isinstance(node, ast.Call) and isinstance(node.func, ast.Attribute) and node.func.attr in MODIFIERS:
            found.append(node.func.value)
        if isinstance(node, ast.Subscript) and isinstance(node.ctx, (ast.Store, ast.Del)):
            found.append(node.value)
        if isinstance(node, ast.Attribute) and isinstance(node.ctx, (ast.Store, ast.Del)):
            found.append(node)
        if isinstance(node, ast.AugAssign) and isinstance(node.target, ast.Name):
            found.append(node.target)
    return found


def is_builtin(name):
    return name in vars(builtins) and not name.startswith("__")


def is_text(node):
    return isinstance(node, ast.Expr) and isinstance(node.value, ast.Constant) and isinstance(node.value.value, str)


def without_docstrings(tree):
    for node in ast.walk(tree):
        if isinstance(node, (ast.Module, ast.ClassDef, ast.FunctionDef)) and is_text(node.body[0]):
            node.body[0] = ast.Pass()
    return tree


def is_generator(node):
    return any(isinstance(one, (ast.Yield, ast.YieldFrom)) for one in ast.walk(node))


def definitions(texts):
    """What each file defines, and what the whole package does."""
    found = {"own classes": set(), "generators": [], "class methods": set()}
    for name, text in texts.items():
        tree = ast.parse(text)
        found[name] = set()
        for node in tree.body:
            if isinstance(node, (ast.FunctionDef, ast.ClassDef)):
                found[name].add(node.name)
            if isinstance(node, ast.Assign):
                found[name] |= {target.id for target in node.targets if isinstance(target, ast.Name)}
        for node in ast.walk(tree):
            if isinstance(node, ast.ClassDef):
                found["own classes"].add(node.name)
            if isinstance(node, ast.FunctionDef) and is_generator(node):
                found["generators"].append(node.name)
            if isinstance(node, ast.FunctionDef) and any(
                    isinstance(one, ast.Name) and one.id in ("classmethod", "staticmethod") for one in node.decorator_list):
                found["class methods"].add(node.name)
    return found


def breaches(texts):
    """All that is found in the files, a dict from their names (without the ending) to their texts."""
    defined = definitions(texts)
    found = []
    for name, text in texts.items():
        if not re.fullmatch(r"[a-z][a-z0-9_]*|__init__|__main__", name):
            found.append(f"L14 {name}")
        found += Reader(name, text, defined).read()
    return found + circles(texts) + shared_names(texts, defined)


def circles(texts):
    """Files that import one another, directly or not."""
    uses = {name: [node.module[len(PACKAGE) + 1:] for node in ast.parse(text).body if isinstance(node, ast.ImportFrom)]
            for name, text in texts.items()}
    left = dict(uses)
    while True:
        free = [name for name, used in left.items() if not any(one in left for one in used)]
        if not free:
            return [f"L16 {name}" for name in left]
        for name in free:
            del left[name]


def shared_names(texts, defined):
    """Names of generators, properties and class methods that mean something else elsewhere."""
    methods, special, attributes = [], [], set()
    for text in texts.values():
        for node in ast.walk(ast.parse(text)):
            if isinstance(node, ast.ClassDef):
                for part in node.body:
                    if isinstance(part, ast.FunctionDef):
                        (special if part.decorator_list else methods).append((node.name, part.name))
            if isinstance(node, ast.Attribute) and isinstance(node.ctx, ast.Store):
                attributes.add(node.attr)
    found = [f"L5 {name} is a method, too" for _, name in special if name in [one for _, one in methods]]
    found += [f"L5 {name} is an attribute, too" for _, name in special if name in attributes]
    functions = [node.name for text in texts.values() for node in ast.walk(ast.parse(text)) if isinstance(node, ast.FunctionDef)]
    found += [f"L23 {name} is another function, too" for name in defined["generators"] if functions.count(name) > 1]
    own = [name for _, name in methods + special if name not in DOUBLE]
    return found + [f"L26 {name}" for name in own if name not in METHODS and any(hasattr(one, name) for one in BUILTIN_VALUES)]

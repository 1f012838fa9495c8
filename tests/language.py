"""Looks through the sources of a package for what LANGUAGE.md rules out.

It is narrower than the rules where the program needs no more: it knows no lambda, def within a def, annotation,
set, f-string, `**`, `__main__.py` or folder within the package, and no written method but `__init__`.
What it finds is told as a list of texts that begin with the rule's number.
"""

import ast
import builtins
import io
import re
import tokenize

FUNCTIONS = set("len range enumerate zip min max sum abs sorted reversed int str bool list tuple dict isinstance ord "
                "repr any all divmod".split())
ERRORS = set("Exception ValueError TypeError KeyError IndexError LookupError ZeroDivisionError ArithmeticError "
             "OverflowError RuntimeError NotImplementedError AttributeError StopIteration".split())
BASES = ERRORS - {"StopIteration", "AttributeError"}
TAKEN = {"KeyError", "ZeroDivisionError", "StopIteration"}
METHODS = set("append clear copy count endswith extend find get index insert isalnum isalpha isdigit islower isspace "
              "isupper items join keys ljust lower lstrip partition pop remove replace reverse rfind rjust rpartition "
              "rsplit rstrip setdefault split splitlines startswith strip update upper values zfill "
              "bit_length".split())
CHANGING = {"append", "clear", "extend", "insert", "pop", "remove", "reverse", "setdefault", "update"}
READING = {"get", "items", "keys", "values", "index", "count"}
NOWHERE = set("register mro elements open input version_info with_traceback add_note format format_map".split())
FRAMES = re.compile(r"(f|tb|co|gi|cr|ag)_[a-z]+")
NO_NAMES = set("attrgetter breakpoint builtins compile copyright credits delattr dir eval exec exit gc getattr globals "
               "hasattr help id importlib license locals methodcaller os quit setattr super type vars sys".split())
NO_WORDS = ("type typing typing_extensions enum Enum IntEnum StrEnum Flag IntFlag Generic Protocol ABC ABCMeta "
            "namedtuple NamedTuple TypedDict TYPE_CHECKING abstractmethod").split()
NO_PARTS = ("dataclass", "overload", "contextmanager")
NO_FILES = set("test tests testing site conftest sitecustomize usercustomize".split()) | set(NO_WORDS)
OF_PYTHON = set(dir(builtins))
OF_VALUES = {name for kind in (str, int, float, bool, list, tuple, dict, set, frozenset, bytes) for name in dir(kind)}
OF_VALUES |= {"args", "encode", "format", "sort"}
KEYWORDS = {"sorted": {"key", "reverse"}, "min": {"key", "default"}, "max": {"key", "default"}, "sum": {"start"},
            "enumerate": {"start"}, "zip": {"strict"}}
WALKED = {"zip", "enumerate", "reversed", "range"}
VIEWS = {"items", "keys", "values"}
WALKERS = {"list", "tuple", "dict", "sorted", "sum", "any", "all", "enumerate", "zip"}
STATEMENTS = (ast.Assign, ast.AugAssign, ast.If, ast.While, ast.For, ast.Return, ast.Break, ast.Continue, ast.Pass,
              ast.Raise, ast.Try, ast.Expr)
EXPRESSIONS = (ast.Constant, ast.List, ast.Tuple, ast.Dict, ast.BinOp, ast.UnaryOp, ast.BoolOp, ast.Compare, ast.IfExp,
               ast.Call, ast.Attribute, ast.Subscript, ast.Slice, ast.ListComp, ast.Name)
OPERATORS = (ast.Add, ast.Sub, ast.Mult, ast.FloorDiv, ast.Mod, ast.BitAnd, ast.BitOr, ast.BitXor, ast.LShift,
             ast.RShift)
SIGN = re.compile(r"[A-Za-z][A-Za-z0-9_]*")


def faults_of(sources, package, interface=()):
    """What the files (a dict from path within the package to bytes) break.

    interface holds pairs of a file's path and the name of a function that is to stand there.
    """
    faults = []
    files = []
    for path in sorted(sources):
        if not path.endswith(".py") or "/" in path:
            faults.append(f"L1 {path}: not a .py file at the package's top")
            continue
        files.append(File(path, sources[path], package, faults))
    if "__init__.py" not in sources:
        faults.append("L14 no __init__.py")
    read = [file for file in files if file.tree is not None]
    Package(read, package, interface, faults).look()
    return faults


class File:
    """One file: its text, its tree, and the names bound at its top."""

    def __init__(self, path, source, package, faults):
        self.path = path
        self.package = package
        self.faults = faults
        self.tree = None
        self.name_of_file()
        try:
            self.text = source.decode("utf-8")
            self.tree = ast.parse(self.text)
        except (UnicodeDecodeError, SyntaxError, ValueError) as error:
            self.fault("L1", None, f"can't be read: {error}")
            return
        self.parents = {child: node for node in ast.walk(self.tree) for child in ast.iter_child_nodes(node)}
        self.imports = {}
        self.defs = {}
        self.classes = {}
        self.constants = {}
        self.signs()
        self.top()

    def fault(self, rule, node, words):
        line = f":{node.lineno}" if hasattr(node, "lineno") else ""
        self.faults.append(f"{rule} {self.path}{line}: {words}")

    def name_of_file(self):
        word = self.path[:-3]
        if word == "__init__":
            return
        if not re.fullmatch(r"[a-z][a-z0-9_]*", word):
            self.fault("L14", None, "not a plain lower-case name")
        if word in NO_FILES or word.startswith("test_") or word in OF_PYTHON:
            self.fault("L14", None, "a name that no file may have")

    def signs(self):
        lines = self.text.split("\n")
        if len(lines) - (lines[-1] == "") > 399:
            self.fault("L10", None, "more than 399 lines")
        for number, line in enumerate(lines, start=1):
            if len(line) > 120 or "\t" in line:
                self.faults.append(f"L10 {self.path}:{number}: a line over 120 characters, or a tab")
            if not re.fullmatch(r"[ -~]*", line.replace("\t", "")):
                self.faults.append(f"L14 {self.path}:{number}: a sign that is not one from the blank to ~")
            for word in re.findall(r"[A-Za-z0-9_]+", line):
                if word in NO_WORDS or any(part in word for part in NO_PARTS):
                    self.faults.append(f"L17 {self.path}:{number}: the word {word}")
        for token in tokenize.generate_tokens(io.StringIO(self.text).readline):
            if token.type == tokenize.STRING:
                self.string(token)

    def string(self, token):
        bare = re.sub(r"\\\\", "", token.string)
        if re.search(r"\\[^nt\\'\"]", bare) or not token.string.startswith(("'", '"')):
            self.faults.append(f"L27 {self.path}:{token.start[0]}: an escape or a kind of text that is ruled out")
        if "%" in token.string:
            self.faults.append(f"L27 {self.path}:{token.start[0]}: % within a text")

    def top(self):
        body = self.tree.body
        if ast.get_docstring(self.tree) is None:
            self.fault("L3", None, "no docstring")
        else:
            body = body[1:]
        still_imports = True
        for node in body:
            is_import = isinstance(node, (ast.Import, ast.ImportFrom))
            if is_import and not still_imports:
                self.fault("L2", node, "an import that is not at the top")
            still_imports = still_imports and is_import
            self.top_statement(node)

    def top_statement(self, node):
        if isinstance(node, ast.ImportFrom):
            self.top_import(node)
        elif isinstance(node, ast.FunctionDef):
            self.bind(node.name, node, self.defs, node)
        elif isinstance(node, ast.ClassDef):
            self.bind(node.name, node, self.classes, node)
        elif isinstance(node, ast.Assign) and len(node.targets) == 1 and isinstance(node.targets[0], ast.Name):
            self.bind(node.targets[0].id, node, self.constants, node.value)
            if not self.plain(node.value, (ast.List, ast.Dict, ast.Tuple)):
                self.fault("L3", node, "not a plain value")
        else:
            self.fault("L2" if isinstance(node, ast.Import) else "L3", node, "not for the top of a module")

    def top_import(self, node):
        if node.level or not (node.module or "").startswith(self.package + "."):
            self.fault("L2", node, "not one of the package's own modules")
            return
        for alias in node.names:
            if alias.name == "*" or alias.asname:
                self.fault("L2", node, "* or another name")
            else:
                self.bind(alias.name, node, self.imports, node.module[len(self.package) + 1:] + ".py")

    def bind(self, name, node, where, what):
        for bound in (self.imports, self.defs, self.classes, self.constants):
            if name in bound:
                self.fault("L15", node, f"{name} is bound twice")
        if name in OF_PYTHON:
            self.fault("L8", node, f"{name} is a name of Python's own")
        where[name] = what

    def plain(self, node, holders):
        if isinstance(node, ast.Constant):
            return isinstance(node.value, (int, str, bool, type(None)))
        if isinstance(node, ast.UnaryOp) and isinstance(node.op, ast.USub):
            return isinstance(node.operand, ast.Constant) and isinstance(node.operand.value, int)
        if isinstance(node, ast.Name):
            return node.id in self.defs
        if not isinstance(node, holders):
            return False
        within = node.keys + node.values if isinstance(node, ast.Dict) else node.elts
        return all(part is not None and self.plain(part, (ast.Tuple,)) for part in within)


class Package:
    """What is to be known of all files at once: who imports what, which methods and values there are."""

    def __init__(self, files, package, interface, faults):
        self.files = {file.path: file for file in files}
        self.package = package
        self.interface = interface
        self.faults = faults
        self.methods = set()
        self.values = set()

    def look(self):
        for file in self.files.values():
            for node in file.classes.values():
                self.methods |= {part.name for part in node.body if isinstance(part, ast.FunctionDef)}
            self.values |= {node.attr for node in ast.walk(file.tree)
                            if isinstance(node, ast.Attribute) and isinstance(node.ctx, ast.Store)}
        for name in sorted(self.methods & self.values):
            self.faults.append(f"L18 {name} is a method and a value")
        self.sources_of_imports()
        self.rings()
        self.interface_stands()
        for file in self.files.values():
            Look(file, self).look()

    def sources_of_imports(self):
        own = {path[:-3] for path in self.files}
        for file in self.files.values():
            for name, path in file.imports.items():
                source = self.files.get(path)
                if source is None or not (name in source.defs or name in source.classes or name in source.constants):
                    self.faults.append(f"L16 {file.path}: {name} is not defined in {path}")
            if file.path == "__init__.py":
                bound = set(file.imports) | set(file.defs) | set(file.classes) | set(file.constants)
                for name in sorted(bound & own):
                    self.faults.append(f"L16 __init__.py binds {name}, which is a file, too")

    def rings(self):
        drawn = {path: set(file.imports.values()) | {"__init__.py"} for path, file in self.files.items()}
        drawn["__init__.py"] = set(self.files["__init__.py"].imports.values()) if "__init__.py" in self.files else set()
        for path in sorted(drawn):
            reached, ahead = set(), set(drawn[path])
            while ahead:
                step = ahead.pop()
                reached.add(step)
                ahead |= drawn.get(step, set()) - reached
            if path in reached:
                self.faults.append(f"L16 {path} draws from itself by some steps")

    def interface_stands(self):
        for path, name in self.interface:
            node = self.files[path].defs.get(name) if path in self.files else None
            if node is None or node.args.defaults:
                self.faults.append(f"L16 {name} is not written plainly in {path}")
            for file in self.files.values():
                if file.path != path and (name in file.defs or name in file.classes):
                    self.faults.append(f"L16 {file.path} has a {name} of its own")

    def class_named(self, file, name):
        """The class a name of a file stands for, or None."""
        if name in file.classes:
            return file.classes[name]
        source = self.files.get(file.imports.get(name))
        return source.classes.get(name) if source else None

    def constant_named(self, file, name):
        """The value at a file's top that a name stands for, or None."""
        if name in file.constants:
            return file.constants[name]
        source = self.files.get(file.imports.get(name))
        return source.constants.get(name) if source else None

    def is_error(self, file, name):
        """Whether a name of a file stands for an error class of the package's own."""
        node = self.class_named(file, name)
        for _ in range(20):
            if node is None or not node.bases or not isinstance(node.bases[0], ast.Name):
                return False
            if node.bases[0].id in ERRORS:
                return True
            home = next(each for each in self.files.values() if node in each.classes.values())
            node = self.class_named(home, node.bases[0].id)
        return False


class Look:
    """Goes through one file's tree."""

    def __init__(self, file, package):
        self.file = file
        self.package = package
        self.fault = file.fault

    def look(self):
        for name, node in self.file.defs.items():
            self.function(node)
        for name, node in self.file.classes.items():
            self.class_of_own(node)
        for node in ast.walk(self.file.tree):
            self.any_node(node)

    def class_of_own(self, node):
        if node.decorator_list or node.keywords or len(node.bases) > 1:
            self.fault("L5", node, "a decorator, a keyword or a second base")
        for base in node.bases:
            if not isinstance(base, ast.Name) or not (base.id in BASES or self.package.class_named(self.file, base.id)):
                self.fault("L18", node, "a base that is no class of the package's own and no error class")
        seen = set()
        for place, part in enumerate(node.body):
            if isinstance(part, ast.FunctionDef):
                if part.name in seen:
                    self.fault("L18", part, f"the method {part.name} stands twice")
                seen.add(part.name)
                self.method(part)
            elif not (place == 0 and is_docstring(part)):
                self.fault("L5", part, "not a method")

    def method(self, node):
        if node.name.startswith("__"):
            if node.name != "__init__":
                self.fault("L28", node, f"{node.name} is written")
            for part in ast.walk(node):
                if isinstance(part, ast.Return) and part.value is not None:
                    self.fault("L28", part, "__init__ gives something back")
        elif node.name in OF_VALUES:
            self.fault("L26", node, f"a method called {node.name}")
        if not node.args.args or node.args.args[0].arg != "self":
            self.fault("L5", node, "a method without self")
        self.function(node)

    def function(self, node):
        self.heading(node)
        if node.end_lineno - node.lineno + 1 > 40:
            self.fault("L10", node, f"{node.name} has more than 40 lines")
        local = {part.arg for part in node.args.args}
        for part in ast.walk(node):
            if isinstance(part, ast.Name) and isinstance(part.ctx, ast.Store):
                local.add(part.id)
            if isinstance(part, ast.ExceptHandler) and part.name:
                local.add(part.name)
                self.taken_error(part)
        for name in sorted(local):
            self.local_name(node, name)
        for place, part in enumerate(node.body):
            if not (place == 0 and is_docstring(part)):
                self.statement(part)
        for part in ast.walk(node):
            if isinstance(part, ast.Name) and isinstance(part.ctx, ast.Load):
                self.name_read(part, local)
            if isinstance(part, ast.Attribute) and isinstance(part.ctx, ast.Store):
                self.value_given(part, local)

    def heading(self, node):
        arguments = node.args
        if arguments.vararg or arguments.kwarg or arguments.kwonlyargs or arguments.posonlyargs:
            self.fault("L4", node, "a parameter that is not plain")
        if node.decorator_list:
            self.fault("L4", node, "a decorator")
        for default in arguments.defaults:
            if not isinstance(default, ast.Constant) or not isinstance(default.value, (int, str, type(None))):
                self.fault("L4", node, "a default that is no plain value")
        if node.returns or any(part.annotation for part in arguments.args):
            self.fault("L21", node, "an annotation")

    def local_name(self, node, name):
        file = self.file
        if name in file.classes or name in file.imports or name in file.defs or name in file.constants:
            self.fault("L15", node, f"{name} is a name of the file's top, too")
        if name in OF_PYTHON:
            self.fault("L15", node, f"{name} is a name of Python's own")

    def taken_error(self, handler):
        for part in ast.walk(handler):
            if isinstance(part, ast.Name) and part.id == handler.name:
                if not isinstance(self.file.parents[part], ast.Attribute):
                    self.fault("L11", part, "of an error that is taken only its own values may be read")

    def value_given(self, node, local):
        if not isinstance(node.value, ast.Name) or node.value.id not in local:
            self.fault("L18", node, "a value given to something that is no local name")
        if node.attr in OF_VALUES:
            self.fault("L26", node, f"a value called {node.attr}")

    def name_read(self, node, local):
        name, file = node.id, self.file
        if name in local:
            return
        if self.package.class_named(file, name) is not None or name in ERRORS:
            self.class_read(node)
        elif self.package.constant_named(file, name) is not None:
            self.constant_read(node, self.package.constant_named(file, name))
        elif name in FUNCTIONS:
            self.python_read(node)
        elif name in ("print", "input", "open"):
            self.fault("L9", node, f"{name} reads or writes")
        elif name in ("set", "frozenset"):
            self.fault("L24", node, "a set")
        elif name == "chr":
            self.fault("L27", node, "chr")
        elif name not in file.defs and name not in file.imports:
            self.fault("L8", node, f"{name} is not a name that may be read")

    def class_read(self, node):
        parent = self.file.parents[node]
        called = isinstance(parent, ast.Call) and parent.func is node
        asked = isinstance(parent, ast.Call) and getattr(parent.func, "id", "") == "isinstance"
        begun = isinstance(parent, ast.Attribute) and parent.attr == "__init__"
        if not (called or asked or begun or isinstance(parent, (ast.ExceptHandler, ast.ClassDef))):
            self.fault("L18", node, f"the class {node.id} is handed on")

    def constant_read(self, node, value):
        if not isinstance(value, (ast.List, ast.Tuple, ast.Dict)):
            return
        parent = self.file.parents[node]
        indexed = isinstance(parent, ast.Subscript) and parent.value is node and isinstance(parent.ctx, ast.Load)
        walked = isinstance(parent, (ast.For, ast.comprehension)) and parent.iter is node
        called = isinstance(parent, ast.Call) and getattr(parent.func, "id", "") in FUNCTIONS
        asked = isinstance(parent, ast.Attribute) and parent.attr in READING
        if not (indexed or walked or called or asked or isinstance(parent, ast.Compare)):
            self.fault("L15", node, f"{node.id} is handed on or changed")

    def python_read(self, node):
        parent = self.file.parents[node]
        if isinstance(parent, ast.Call) and parent.func is node:
            return
        if isinstance(parent, ast.Call) and getattr(parent.func, "id", "") == "isinstance":
            return
        self.fault("L22", node, f"{node.id} is kept as a value")

    def statement(self, node):
        if isinstance(node, (ast.FunctionDef, ast.ClassDef)):
            self.fault("L15" if isinstance(node, ast.ClassDef) else "L4", node, "within a function")
            return
        if not isinstance(node, STATEMENTS):
            self.fault("L6", node, f"a statement {node.__class__.__name__}")
            return
        if isinstance(node, ast.Expr) and not isinstance(node.value, ast.Call):
            self.fault("L6", node, "an expression by itself")
        if isinstance(node, ast.Assign):
            if len(node.targets) > 1 or isinstance(node.targets[0], (ast.Tuple, ast.List)):
                self.fault("L6", node, "more than one target")
        if isinstance(node, (ast.For, ast.While)) and node.orelse:
            self.fault("L6", node, "else behind a loop")
        if isinstance(node, ast.For):
            self.loop(node)
        if isinstance(node, ast.Try):
            self.attempt(node)
        if isinstance(node, ast.Raise):
            self.raised(node)
        for part in ast.iter_child_nodes(node):
            if isinstance(part, ast.stmt):
                self.statement(part)
            if isinstance(part, ast.ExceptHandler):
                for inner in part.body:
                    self.statement(inner)

    def attempt(self, node):
        if node.finalbody:
            self.fault("L6", node, "finally")
        for handler in node.handlers:
            name = getattr(handler.type, "id", None)
            if name not in TAKEN and not (name and self.package.is_error(self.file, name)):
                self.fault("L19", handler, "takes no error class of the package's own")

    def raised(self, node):
        name = getattr(getattr(node.exc, "func", None), "id", None)
        if name is None or not self.package.is_error(self.file, name) or node.cause is not None:
            self.fault("L19", node, "raises no error of the package's own on the spot")

    def loop(self, node):
        walked = {ast.dump(thing) for thing in walked_things(node.iter)}
        for part in ast.walk(node):
            holder = changed_holder(part)
            if holder is not None and ast.dump(holder) in walked:
                self.fault("L23", part, "changes what the loop walks")

    def any_node(self, node):
        if isinstance(node, ast.Lambda):
            self.fault("L4", node, "a lambda")
            if any(other is not node and isinstance(other, ast.Lambda) and other.lineno == node.lineno
                   for other in ast.walk(self.file.tree)):
                self.fault("L13", node, "two lambdas on one line")
        elif isinstance(node, ast.Set):
            self.fault("L13" if len(node.elts) > 2 else "L24", node, "a set written out")
        elif isinstance(node, ast.expr) and not isinstance(node, EXPRESSIONS):
            self.fault("L7", node, f"an expression {node.__class__.__name__}")
        for name in names_of(node):
            self.word(node, name)
        if isinstance(node, ast.Constant):
            self.constant(node)
        if isinstance(node, (ast.BinOp, ast.AugAssign)) and not isinstance(node.op, OPERATORS):
            self.fault("L27" if isinstance(node.op, ast.Pow) else "L7", node, "an operator that is ruled out")
        if isinstance(node, ast.ListComp) and (len(node.generators) > 1 or len(node.generators[0].ifs) > 1):
            self.fault("L7", node, "more than one for or if")
        if isinstance(node, ast.Compare):
            self.compared(node)
        if isinstance(node, ast.AnnAssign):
            self.fault("L21", node, "an annotation")
        if isinstance(node, ast.Call):
            self.call(node)
        if isinstance(node, ast.Attribute):
            self.attribute(node)

    def word(self, node, name):
        if not SIGN.fullmatch(name) and name != "__init__":
            self.fault("L12", node, f"the name {name}")
        if name in NOWHERE or FRAMES.fullmatch(name):
            self.fault("L17", node, f"the name {name}")
        if name in NO_NAMES and not isinstance(node, ast.Attribute):
            self.fault("L17", node, f"the name {name}")

    def constant(self, node):
        if not isinstance(node.value, (bool, int, str, type(None))):
            self.fault("L7", node, "no whole number, text, True, False or None")
        elif isinstance(node.value, int) and len(str(abs(node.value))) > 900:
            self.fault("L27", node, "a number of more than 900 digits")

    def compared(self, node):
        sides = [node.left] + node.comparators
        for k, operator in enumerate(node.ops):
            if isinstance(operator, (ast.Is, ast.IsNot)):
                beside = [getattr(side, "value", 0) for side in sides[k:k + 2] if isinstance(side, ast.Constant)]
                if not any(value is None or value is True or value is False for value in beside):
                    self.fault("L20", node, "is beside something else than None, True and False")

    def call(self, node):
        if any(isinstance(part, ast.Starred) for part in node.args) or any(part.arg is None for part in node.keywords):
            self.fault("L7", node, "a star")
        name = getattr(node.func, "id", "")
        views = isinstance(node.func, ast.Attribute) and node.func.attr in VIEWS
        if name in FUNCTIONS or name in ERRORS or isinstance(node.func, ast.Attribute) and node.func.attr in METHODS:
            for keyword in node.keywords:
                if keyword.arg not in KEYWORDS.get(name, ()):
                    self.fault("L22", node, f"the keyword {keyword.arg}")
        if name in WALKED or views:
            self.walked_at_once(node)
        if isinstance(node.func, ast.Attribute):
            method = node.func.attr
            if method not in METHODS and method not in self.package.methods:
                self.fault("L25", node, f"the method {method}")

    def walked_at_once(self, node):
        parent = self.file.parents[node]
        in_for = isinstance(parent, (ast.For, ast.comprehension)) and parent.iter is node
        first = isinstance(parent, ast.Call) and parent.args[:1] == [node] and (
            getattr(parent.func, "id", "") in WALKERS
            or getattr(parent.func, "id", "") in ("min", "max", "reversed") and len(parent.args) == 1)
        zipped = isinstance(parent, ast.Call) and getattr(parent.func, "id", "") == "zip"
        if not (in_for or first or zipped):
            self.fault("L23", node, "not walked at once")

    def attribute(self, node):
        parent = self.file.parents[node]
        called = isinstance(parent, ast.Call) and parent.func is node
        if not called and (node.attr in METHODS or node.attr in self.package.methods):
            self.fault("L25", node, f"the method {node.attr} is handed on")
        if node.attr.startswith("__") and not (called and node.attr == "__init__"):
            self.fault("L8", node, f"the attribute {node.attr}")


def is_docstring(node):
    return isinstance(node, ast.Expr) and isinstance(node.value, ast.Constant) and isinstance(node.value.value, str)


def names_of(node):
    """The names that a node itself writes."""
    if isinstance(node, ast.Name):
        return [node.id]
    if isinstance(node, ast.Attribute):
        return [node.attr]
    if isinstance(node, (ast.FunctionDef, ast.ClassDef)):
        return [node.name]
    if isinstance(node, (ast.arg, ast.keyword)):
        return [node.arg] if node.arg else []
    if isinstance(node, ast.ExceptHandler):
        return [node.name] if node.name else []
    return []


def walked_things(node):
    """What a loop over node walks, behind enumerate, zip, reversed and the views of a dict."""
    if isinstance(node, ast.Call) and getattr(node.func, "id", "") in ("enumerate", "zip", "reversed"):
        return [thing for part in node.args for thing in walked_things(part)]
    if isinstance(node, ast.Call) and isinstance(node.func, ast.Attribute) and node.func.attr in VIEWS:
        return [node.func.value]
    return [node]


def changed_holder(node):
    """What a node changes: the list or dict that is written into or whose changing method is called."""
    if isinstance(node, ast.Subscript) and isinstance(node.ctx, ast.Store):
        return node.value
    if isinstance(node, ast.Call) and isinstance(node.func, ast.Attribute) and node.func.attr in CHANGING:
        return node.func.value
    if isinstance(node, ast.AugAssign) and isinstance(node.target, (ast.Name, ast.Attribute)):
        return ast.parse(ast.unparse(node.target), mode="eval").body
    return None

"""Checks the package's files against the rules L1 to L28 of LANGUAGE.md.

Where a rule allows more than the package uses, the check is narrower than the
rule: operators, properties, class values, sets, generators, lambdas, nested
functions, annotations and the like are faults here. Whoever needs more widens
a check as far as its rule goes.

Each rule has a check, but not all of each rule is checked. Left to the reader:
recursion through other functions (L11), what becomes a key (L24), how many
arguments builtins and methods are passed (L22), literal values of keywords
(L22), f-strings over two lines (L27), all names of Python's frames (L17).
"""

import ast
import builtins
import io
import keyword
import re
import sys
import tokenize
import warnings

PACKAGE = "worldbridge"
ERRORS = """Exception ValueError TypeError KeyError IndexError LookupError ZeroDivisionError ArithmeticError
    OverflowError RuntimeError NotImplementedError""".split()
CALLED = """len range enumerate zip min max sum abs sorted reversed int str bool list tuple dict isinstance ord repr
    any all divmod""".split()
LAZY = ["zip", "enumerate", "reversed", "range"]
LAZY_METHODS = ["items", "keys", "values"]
DRAINS = ["list", "tuple", "dict", "sorted", "sum", "any", "all", "enumerate", "zip", "min", "max"]
KINDS = ["int", "str", "bool", "bytes", "list", "tuple", "dict"]
KEYWORDS = {"sorted": ["key", "reverse"], "min": ["key", "default"], "max": ["key", "default"],
            "sum": ["start"], "enumerate": ["start"], "zip": ["strict"]}
METHODS = """append clear copy count endswith extend find get index insert isalnum isalpha isdigit islower isspace
    isupper items join keys ljust lower lstrip partition pop remove replace reverse rfind rjust rpartition rsplit
    rstrip setdefault split splitlines startswith strip update upper values zfill bit_length""".split()
CHANGING = "append clear extend insert pop remove reverse setdefault update sort".split()
ATTRIBUTES = "count index title find get join lower upper split strip copy add".split()
NOT_ATTRIBUTES = """items keys values pop update append clear extend insert remove reverse setdefault sort args
    encode decode hex fromhex format""".split()
NEVER = """register mro elements open input version_info with_traceback add_note f_back f_code f_globals f_locals
    f_lineno tb_next tb_frame tb_lineno co_names co_code co_consts gi_frame""".split()
NOT_NAMES = """attrgetter breakpoint builtins compile copyright credits delattr dir eval exec exit gc getattr globals
    hasattr help id importlib license locals methodcaller os quit setattr type vars sys""".split()
WORDS = """type typing typing_extensions enum Enum IntEnum StrEnum Flag IntFlag Generic Protocol ABC ABCMeta
    namedtuple NamedTuple TypedDict TYPE_CHECKING abstractmethod""".split()
PARTS = ["dataclass", "overload", "contextmanager"]
# These call themselves no deeper than what they are handed is nested.
SHALLOW = ["copied"]
FILES = ["test", "tests", "testing", "site", "conftest", "sitecustomize", "usercustomize"]

STATEMENTS = (ast.Assign, ast.AugAssign, ast.If, ast.While, ast.For, ast.Return, ast.Break, ast.Continue, ast.Pass,
              ast.Raise, ast.Assert, ast.Delete, ast.Try, ast.Expr)
EXPRESSIONS = (ast.Constant, ast.BinOp, ast.UnaryOp, ast.BoolOp, ast.Compare, ast.IfExp, ast.Call, ast.Attribute,
               ast.Subscript, ast.Slice, ast.List, ast.Tuple, ast.Dict, ast.ListComp, ast.DictComp, ast.JoinedStr,
               ast.FormattedValue, ast.Name)
LOOPS = (ast.For, ast.comprehension)
SCOPES = (ast.FunctionDef, ast.ClassDef)
NARROWER = {ast.Lambda: "L13", ast.Set: "L24", ast.SetComp: "L24", ast.GeneratorExp: "L23", ast.Yield: "L23",
            ast.YieldFrom: "L23", ast.AnnAssign: "L21"}


class Package:
    """All files at once: name -> tree, and what they define."""

    def __init__(self, sources):
        self.sources = sources
        with warnings.catch_warnings():
            # text_faults tells them.
            warnings.simplefilter("ignore")
            self.trees = {name: ast.parse(source) for name, source in sources.items()}
        everything = [node for tree in self.trees.values() for node in ast.walk(tree)]
        self.classes = {node.name: node for node in everything if isinstance(node, ast.ClassDef)}
        self.methods = {item.name for node in self.classes.values() for item in functions(node)}
        self.attributes = {node.attr for node in everything
                           if isinstance(node, ast.Attribute) and isinstance(node.ctx, ast.Store)}
        self.errors = {name for name in self.classes if self.is_error(name)}

    def is_error(self, name):
        if name not in self.classes:
            return name in ERRORS
        return any(self.is_error(getattr(base, "id", "")) for base in self.classes[name].bases)

    def init_of(self, name):
        """The __init__ that a call of the class reaches, if it is an own one."""
        node = self.classes.get(name)
        if node is None:
            return None
        for item in functions(node):
            if item.name == "__init__":
                return item
        found = [self.init_of(getattr(base, "id", "")) for base in node.bases]
        return ([init for init in found if init] + [None])[0]


def functions(node):
    return [item for item in node.body if isinstance(item, ast.FunctionDef)]


def within(tree, kinds):
    return [node for node in ast.walk(tree) if isinstance(node, kinds)]


def line(node):
    return getattr(node, "lineno", 0)


def called(node):
    """The plain name that is called, or nothing."""
    return node.func.id if isinstance(node, ast.Call) and isinstance(node.func, ast.Name) else ""


def parents(tree):
    return {child: node for node in ast.walk(tree) for child in ast.iter_child_nodes(node)}


def docstring(node):
    first = node.body[0] if node.body else None
    told = isinstance(first, ast.Expr) and isinstance(first.value, ast.Constant) and isinstance(first.value.value, str)
    return first if told else None


def top_names(tree):
    """(name, node) of all that a module binds."""
    pairs = []
    for node in tree.body:
        if isinstance(node, SCOPES):
            pairs.append((node.name, node))
        elif isinstance(node, (ast.Import, ast.ImportFrom)):
            pairs += [(alias.asname or alias.name, node) for alias in node.names]
        else:
            pairs += [(item.id, node) for item in within(node, ast.Name) if isinstance(item.ctx, ast.Store)]
    return pairs


def local_names(function):
    names = {item.arg for item in within(function, ast.arg)}
    names |= {item.id for item in within(function, ast.Name) if isinstance(item.ctx, ast.Store)}
    return names | {item.name for item in within(function, ast.ExceptHandler) if item.name}


def file_faults(names):
    """L1 and L14: names and number of the files."""
    if len(names) > 100:
        yield "L14", 0, "too many files"
    if PACKAGE in sys.stdlib_module_names:
        yield "L14", 0, "the name of a module of Python's"
    for name in names:
        stem = name[:-3]
        if name == "__init__.py":
            continue
        if not re.fullmatch(r"[A-Za-z0-9_]+\.py", name):
            yield "L1", 0, name
        if stem != stem.lower() or not re.fullmatch(r"[a-z][a-z0-9_]*", stem) or keyword.iskeyword(stem):
            yield "L14", 0, name
        if stem in FILES + WORDS + NEVER + dir(builtins) or re.match("law_|test_", stem):
            yield "L14", 0, name


def text_faults(source):
    """L10, L14, L17 and L27: what is seen without a tree."""
    rows = source.split("\n")
    if len(rows) > 401:
        yield "L10", 0, "too many lines"
    for number, row in enumerate(rows, 1):
        if len(row) > 120 or "\t" in row:
            yield "L10", number, "too long, or a tab"
        if not re.fullmatch("[ -~]*", row):
            yield "L14", number, "a sign that isn't plain"
        for word in re.findall("[A-Za-z0-9_]+", row):
            if word in WORDS or any(part in word for part in PARTS):
                yield "L17", number, word
    for token in tokenize.generate_tokens(io.StringIO(source).readline):
        if token.type == tokenize.STRING or token.string.startswith(("f'", 'f"')):
            if re.search(r"\\[^nt\\'\"]", token.string.replace("\\\\", "")):
                yield "L27", token.start[0], "an escape"
        if token.type == tokenize.NUMBER and len(token.string) > 900:
            yield "L27", token.start[0], "a long number"
    with warnings.catch_warnings(record=True) as told:
        warnings.simplefilter("always")
        compile(source, "x", "exec")
    for warning in told:
        yield "L27", warning.lineno, "a warning"


def import_faults(package, file, tree):
    """L2 and L16."""
    body = [node for node in tree.body if node != docstring(tree)]
    kinds = [isinstance(node, (ast.Import, ast.ImportFrom)) for node in body]
    for node in within(tree, (ast.Import, ast.ImportFrom)):
        if node not in body or not all(kinds[:body.index(node)]):
            yield "L2", line(node), "not at the top"
        if isinstance(node, ast.Import) or node.level or any(a.asname or a.name == "*" for a in node.names):
            yield "L2", line(node), "another form"
            continue
        source = node.module.removeprefix(PACKAGE + ".") + ".py"
        if not node.module.startswith(PACKAGE + ".") or source not in package.trees:
            yield "L2", line(node), "not of the package"
            continue
        own = [name for name, other in top_names(package.trees[source]) if not isinstance(other, ast.ImportFrom)]
        if any(alias.name not in own for alias in node.names):
            yield "L16", line(node), "not the file that defines it"
        if file == "__init__.py" or file in reached(package, source):
            yield "L16", line(node), "files import each other"


def reached(package, file):
    """The file, and all that it imports, through others too."""
    found = [file]
    for at in found:
        for node in within(package.trees.get(at, ast.Module([], [])), ast.ImportFrom):
            found += [name for name in [(node.module or "").split(".")[-1] + ".py"] if name not in found]
    return found


def is_plain(value):
    if isinstance(value, ast.UnaryOp) and isinstance(value.op, ast.USub):
        return isinstance(value.operand, ast.Constant) and isinstance(value.operand.value, int)
    if isinstance(value, ast.Tuple):
        return all(is_plain(item) for item in value.elts)
    return isinstance(value, ast.Constant) and isinstance(value.value, (int, str, bytes, type(None)))


def module_faults(tree):
    """L3 and L15."""
    for node in tree.body:
        if isinstance(node, SCOPES + (ast.Import, ast.ImportFrom)) or node == docstring(tree):
            continue
        if not isinstance(node, ast.Assign) or len(node.targets) != 1 or not isinstance(node.targets[0], ast.Name):
            yield "L3", line(node), "no plain statement"
        elif not is_plain(node.value):
            yield "L3", line(node), "no plain value"
    pairs = top_names(tree)
    names = [name for name, node in pairs]
    for name, node in pairs:
        if names.count(name) > 1:
            yield "L15", line(node), "bound twice"
        if name in dir(builtins):
            yield "L8", line(node), "a builtin's name"
    barred = [name for name, node in pairs if isinstance(node, (ast.ClassDef, ast.ImportFrom))] + dir(builtins)
    for function in within(tree, ast.FunctionDef):
        for name in local_names(function):
            if name in barred:
                yield "L15", line(function), name


def function_faults(tree):
    """L4, L10, L11 and L21."""
    for function in within(tree, ast.FunctionDef):
        args = function.args
        if args.posonlyargs or args.kwonlyargs or args.vararg or args.kwarg or function.decorator_list:
            yield "L4", line(function), "a parameter or a decorator"
        if not all(is_plain(value) for value in args.defaults):
            yield "L4", line(function), "a default value"
        if len(within(function, SCOPES)) > 1:
            yield "L4", line(function), "nested"
        if function.end_lineno - function.lineno >= 40:
            yield "L10", line(function), "too long"
        if function.returns or any(arg.annotation for arg in within(function, ast.arg)):
            yield "L21", line(function), "an annotation"
        for call in within(function, ast.Call):
            through = call.func
            own = isinstance(through, ast.Attribute) and getattr(through.value, "id", "") == "self"
            again = called(call) == function.name or own and through.attr == function.name
            if again and function.name not in SHALLOW:
                yield "L11", line(call), "calls itself"


def class_faults(package, tree):
    """L5, L18 and L28."""
    for node in within(tree, ast.ClassDef):
        names = [base.id for base in node.bases if isinstance(base, ast.Name)]
        if node not in tree.body or node.keywords or node.decorator_list or len(node.bases) > 1:
            yield "L5", line(node), "another form"
        if len(names) < len(node.bases) or any(name not in package.classes and name not in ERRORS for name in names):
            yield "L5", line(node), "a base class"
        if any(not isinstance(item, ast.FunctionDef) and item != docstring(node) for item in node.body):
            yield "L5", line(node), "more than methods"
        methods = [item.name for item in functions(node)]
        if len(set(methods)) < len(methods):
            yield "L18", line(node), "a method twice"
        for item in functions(node):
            if item.name.startswith("__") and item.name != "__init__":
                yield "L5", line(item), item.name
            if not item.args.args:
                yield "L5", line(item), "a method of nothing"
            gives = [back for back in within(item, ast.Return) if back.value]
            if item.name == "__init__" and gives:
                yield "L28", line(item), "__init__ returns something"
            if item.name != "__init__" and any(n.attr == "__init__" for n in within(item, ast.Attribute)):
                yield "L28", line(item), "__init__ is called"
    for function in functions(tree):
        if function.name.startswith("__") or any(n.attr == "__init__" for n in within(function, ast.Attribute)):
            yield "L28", line(function), "outside of a class"


def statement_faults(tree):
    """L6, L13, L19, L21, L23 and L24: which statements and targets there are."""
    above = parents(tree)
    for node in within(tree, ast.stmt):
        if isinstance(node, SCOPES + (ast.Import, ast.ImportFrom)):
            continue
        if not isinstance(node, STATEMENTS):
            yield NARROWER.get(type(node), "L6"), line(node), type(node).__name__
        if isinstance(node, ast.Expr) and not isinstance(node.value, ast.Call) and node != docstring(above[node]):
            yield NARROWER.get(type(node.value), "L6"), line(node), "a value on its own"
        if isinstance(node, ast.Delete) and any(not isinstance(target, ast.Subscript) for target in node.targets):
            yield "L6", line(node), "del"
        if isinstance(node, ast.Try) and (node.finalbody or not node.handlers):
            yield "L6", line(node), "finally"
        if isinstance(node, ast.AugAssign) and isinstance(getattr(node.target, "slice", None), ast.Slice):
            yield "L6", line(node), "a slice"
        if isinstance(node, ast.Assert) and isinstance(node.test, ast.Tuple):
            yield "L6", line(node), "assert of a tuple"
    for node in within(tree, LOOPS):
        if any(not isinstance(item, (ast.Name, ast.Tuple, ast.Store)) for item in ast.walk(node.target)):
            yield "L23", line(node.target), "a loop's target"


def expression_faults(tree):
    """L7, L20 and L27: which expressions there are."""
    for node in within(tree, ast.expr):
        if not isinstance(node, EXPRESSIONS):
            yield NARROWER.get(type(node), "L7"), line(node), type(node).__name__
        if isinstance(node, ast.Constant) and not isinstance(node.value, (int, str, bytes, type(None))):
            yield "L7", line(node), "a value"
        if isinstance(node, ast.Constant) and isinstance(node.value, str):
            if "%" in node.value or node.value.endswith(("._", ".__")):
                yield "L27", line(node), "a string"
        if isinstance(node, ast.FormattedValue) and node.format_spec or isinstance(node, ast.Dict) and None in node.keys:
            yield "L7", line(node), "a format or a star"
        if isinstance(node, ast.FormattedValue) and within(node.value, (ast.Constant, ast.JoinedStr)):
            yield "L27", line(node), "a string in braces"
        if isinstance(node, ast.Call) and isinstance(node.func, ast.Constant):
            yield "L7", line(node), "a literal is called"
        if isinstance(node, ast.Call) and any(word.arg is None for word in node.keywords):
            yield "L7", line(node), "stars"
        if isinstance(node, ast.Compare):
            for sign, value in zip(node.ops, node.comparators):
                plain = isinstance(value, ast.Constant) and isinstance(value.value, (bool, type(None)))
                if isinstance(sign, (ast.Is, ast.IsNot)) and not plain:
                    yield "L20", line(node), "is"
    for node in within(tree, (ast.BinOp, ast.AugAssign)):
        if isinstance(node.op, (ast.Div, ast.MatMult)):
            yield "L7", line(node), "a sign"
        if isinstance(node.op, ast.Pow):
            power = node.right if isinstance(node, ast.BinOp) else node.value
            if not isinstance(power, ast.Constant) or power.value not in range(65):
                yield "L27", line(node), "a power"


def name_faults(package, tree):
    """L8, L9, L12, L17 and L24: which names there are."""
    top = [name for name, node in top_names(tree)]
    for function in within(tree, ast.FunctionDef):
        known = local_names(function) | set(top) | set(CALLED) | set(ERRORS) | set(KINDS) | {"super"}
        for node in within(function, ast.Name):
            if node.id in ("print", "sys"):
                yield "L9", line(node), node.id
            elif node.id in ("set", "frozenset"):
                yield "L24", line(node), node.id
            elif node.id == "chr":
                yield "L27", line(node), node.id
            elif node.id not in known:
                yield "L8", line(node), node.id
    for node, name in all_names(tree):
        if not re.fullmatch("[A-Za-z][A-Za-z0-9_]*", name) and name not in ("__init__", "__future__"):
            yield ("L8" if name.startswith("__") else "L12"), line(node), name
        if name in NEVER or name in NOT_NAMES and not isinstance(node, ast.Attribute):
            yield "L17", line(node), name
        if name in ("format", "format_map"):
            yield "L8", line(node), name


def all_names(tree):
    for node in ast.walk(tree):
        for field in ("id", "arg", "attr", "name"):
            name = getattr(node, field, None)
            if isinstance(name, str):
                yield node, name


def use_faults(package, tree):
    """L18, L19 and L22: how classes, errors and builtins are used."""
    above = parents(tree)
    for node in within(tree, ast.Name):
        up = above[node]
        is_called = isinstance(up, ast.Call) and up.func == node
        is_asked = called(up) == "isinstance" and node in up.args[1:]
        is_asked = is_asked or isinstance(up, ast.Tuple) and called(above[up]) == "isinstance"
        is_base = isinstance(up, ast.ClassDef)
        is_caught = isinstance(up, ast.ExceptHandler) or isinstance(up, ast.Tuple) and isinstance(
            above[up], ast.ExceptHandler)
        is_init = isinstance(up, ast.Attribute) and up.attr == "__init__"
        if node.id in package.classes or node.id in ERRORS:
            if not (is_called or is_asked or is_base or is_caught or is_init):
                yield "L18", line(node), node.id
        elif node.id in CALLED + KINDS and not (is_called or is_asked and node.id in KINDS):
            yield "L22", line(node), node.id
    for node in within(tree, ast.Raise):
        bare = node.exc is None and any(node in within(one, ast.Raise) for one in within(tree, ast.ExceptHandler))
        if not bare and (called(node.exc) not in package.errors or node.cause):
            yield "L19", line(node), "raise"
    for node in within(tree, ast.ExceptHandler):
        caught = within(node.type, ast.Name) if node.type else []
        if not caught or any(name.id not in package.errors for name in caught):
            yield "L19", line(node), "except"


def call_faults(package, tree):
    """L22, L25 and L26: what is called, with how much."""
    own = {node.name: node for other in package.trees.values() for node in functions(other)}
    for call in within(tree, ast.Call):
        name = called(call)
        words = [word.arg for word in call.keywords]
        if name in CALLED and any(word not in KEYWORDS.get(name, []) for word in words):
            yield "L22", line(call), "a keyword"
        if name == "isinstance":
            kinds = within(call.args[-1], ast.Name)
            if len(call.args) != 2 or any(kind.id not in KINDS and kind.id not in package.classes for kind in kinds):
                yield "L22", line(call), "isinstance"
        if name in own and not fits(own[name], 0, call):
            yield "L22", line(call), name
        if name in package.classes:
            init = package.init_of(name)
            texts = all(isinstance(arg, (ast.Constant, ast.JoinedStr)) for arg in call.args) and not words
            if not (fits(init, 1, call) if init else texts and (name in package.errors or not call.args)):
                yield "L22", line(call), name
        if isinstance(call.func, ast.Attribute) and call.func.attr != "__init__":
            if call.func.attr not in METHODS and call.func.attr not in package.methods:
                yield "L25", line(call), call.func.attr
            if call.func.attr in METHODS and words:
                yield "L25", line(call), "a keyword"
        if name == "super" and not is_init_call(tree, call):
            yield "L28", line(call), "super"
    for node in within(tree, ast.Attribute):
        is_called = any(call.func == node for call in within(tree, ast.Call))
        if not is_called and (node.attr in package.methods or node.attr in METHODS and node.attr not in ATTRIBUTES):
            yield "L25", line(node), node.attr
        if not is_called and node.attr not in package.attributes:
            yield "L18", line(node), node.attr


def is_init_call(tree, call):
    return any(isinstance(node, ast.Attribute) and node.value == call and node.attr == "__init__" for node in ast.walk(tree))


def fits(function, own, call):
    """Whether a call passes what the function takes."""
    names = [arg.arg for arg in function.args.args][own:]
    given = names[:len(call.args)] + [word.arg for word in call.keywords]
    needed = names[:len(names) - len(function.args.defaults)]
    return (len(call.args) <= len(names) and len(set(given)) == len(given)
            and set(given) <= set(names) and set(needed) <= set(given))


def own_name_faults(package):
    """L18 and L26: names of methods and attributes of all files."""
    builtin = {name for kind in (str, int, list, dict, set, bytes, tuple) for name in dir(kind)}
    for name in sorted(package.methods & package.attributes):
        yield "L18", 0, name + " is a method and an attribute"
    for name in sorted(package.methods - {"__init__"}):
        if name in builtin and name not in METHODS + ["add", "discard"]:
            yield "L26", 0, name
    for name in sorted(package.attributes):
        if name in NOT_ATTRIBUTES or name in builtin and name not in ATTRIBUTES:
            yield "L26", 0, name


def is_lazy(node):
    method = isinstance(node, ast.Call) and isinstance(node.func, ast.Attribute) and node.func.attr in LAZY_METHODS
    return called(node) in LAZY or method


def loop_faults(tree):
    """L23: what is iterated on the spot, and what is not modified meanwhile."""
    above = parents(tree)
    for node in within(tree, ast.Call):
        up = above[node]
        iterated = isinstance(up, LOOPS) and up.iter == node or called(up) in DRAINS and up.args[:1] == [node]
        if is_lazy(node) and not iterated:
            yield "L23", line(node), "stored"
    for loop in within(tree, LOOPS):
        held = {ast.unparse(item) for item in iterated_over(loop.iter)}
        inside = loop.body + loop.orelse if isinstance(loop, ast.For) else [above[loop]]
        for node in [node for part in inside for node in ast.walk(part)]:
            if isinstance(node, ast.Call) and isinstance(node.func, ast.Attribute) and node.func.attr in CHANGING:
                changed = node.func.value
            elif isinstance(node, ast.Subscript) and not isinstance(node.ctx, ast.Load):
                changed = node.value
            elif isinstance(node, ast.AugAssign):
                changed = node.target
            else:
                continue
            if ast.unparse(changed) in held:
                yield "L23", line(node), "modified"


def iterated_over(node):
    """What stands behind zip, enumerate, reversed, items and the like."""
    if called(node) in LAZY:
        return [inner for arg in node.args for inner in iterated_over(arg)]
    if is_lazy(node):
        return [node.func.value]
    return [node]


def faults(sources):
    """(rule, file, line, words) of all that breaks a rule; sources are file name -> text."""
    found = [(rule, "", at, words) for rule, at, words in file_faults(list(sources))]
    package = Package(sources)
    found += [(rule, "", at, words) for rule, at, words in own_name_faults(package)]
    for file, source in sources.items():
        tree = package.trees[file]
        checks = [text_faults(source), import_faults(package, file, tree), module_faults(tree), function_faults(tree),
                  class_faults(package, tree), statement_faults(tree), expression_faults(tree),
                  name_faults(package, tree), use_faults(package, tree), call_faults(package, tree), loop_faults(tree)]
        found += [(rule, file, at, words) for check in checks for rule, at, words in check]
    return found

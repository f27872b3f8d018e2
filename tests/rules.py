"""What the tests look for in the files of the package: the rules of LANGUAGE.md that a program can see."""

import ast
import builtins
import re

METHODS = set("""append clear copy count endswith extend find get index insert isalnum isalpha isdigit islower isspace
isupper items join keys ljust lower lstrip partition pop remove replace reverse rfind rjust rpartition rsplit rstrip
setdefault split splitlines startswith strip update upper values zfill bit_length""".split())
BUILTINS = set("""len range enumerate zip min max sum abs sorted reversed int str bool list tuple dict set isinstance ord
repr any all divmod pow iter ValueError property classmethod""".split())
NODES = set("""Module FunctionDef arguments arg ClassDef Return Assign AugAssign For While If With Raise Try Assert Import
ImportFrom Expr Pass Break Continue BoolOp BinOp UnaryOp IfExp Dict Set ListComp DictComp SetComp comprehension Compare
Call JoinedStr FormattedValue Constant Attribute Subscript Starred Name List Tuple Slice Load Store Del Delete And Or Add
Sub Mult Mod Pow FloorDiv LShift RShift BitOr BitXor BitAnd Not UAdd USub Eq NotEq Lt LtE Gt GtE Is IsNot In NotIn
ExceptHandler keyword alias Yield""".split())
DUNDERS = set("""__init__ __eq__ __repr__ __str__ __len__ __iter__ __contains__ __xor__ __call__ __enter__
__exit__""".split())
NEVER = set("""register mro elements open input law version_info with_traceback add_note f_back tb_next co_names
attrgetter breakpoint compile delattr dir eval exec exit gc getattr globals hasattr help id importlib license locals
methodcaller os quit setattr super type vars sys _cold _tuplegetter _outside _record _written_out
_member_names""".split())
NO_WORDS = re.compile(r"\b(type|typing|typing_extensions|enum|Enum|IntEnum|StrEnum|Flag|IntFlag|Generic|Protocol|ABC|"
                      r"ABCMeta|namedtuple|NamedTuple|TypedDict|TYPE_CHECKING|abstractmethod)\b|"
                      r"dataclass|overload|contextmanager|_wall|_WallAttr")
BAD_BEGINNINGS = ("__", "_wall", "_pe_", "_dcw_", "_enum_", "_cm_", "_twin_re_", "_lay_", "_law_", "_stub_", "_sre")
ITERATED = ("zip", "enumerate", "reversed", "range")
ITERATORS = ("list", "tuple", "dict", "sorted", "sum", "any", "all", "enumerate", "zip", "min", "max", "reversed")
OUTSIDE = {"math": ("gcd", "lcm", "isqrt", "comb", "perm", "factorial")}


def of(tree, *kinds):
    return [node for node in ast.walk(tree) if isinstance(node, kinds)]


def line_faults(text):
    lines = text.split("\n")
    if len(lines) > 400:
        yield "L10 file", len(lines)
    for k, line in enumerate(lines, 1):
        if len(line) > 120:
            yield "L10 line", k
        if any(not " " <= sign <= "~" for sign in line):
            yield "L14 character", k


def docstrings(tree):
    return [node.body[0].value for node in of(tree, ast.Module, ast.FunctionDef, ast.ClassDef)
            if node.body and isinstance(node.body[0], ast.Expr) and isinstance(node.body[0].value, ast.Constant)]


def string_faults(tree):
    told = docstrings(tree)
    for node in of(tree, ast.Constant):
        if isinstance(node.value, (float, complex, bytes)) or node.value is Ellipsis:
            yield "L7 constant", node.lineno
        if isinstance(node.value, str) and node not in told:
            if "%" in node.value or NO_WORDS.search(node.value) or "__" in node.value:
                yield "L17 L27 string", node.lineno


def name_faults(tree):
    names = [(node.id, node.lineno) for node in of(tree, ast.Name)]
    names += [(node.arg, node.lineno) for node in of(tree, ast.arg, ast.keyword)]
    names += [(node.name, node.lineno) for node in of(tree, ast.FunctionDef, ast.ClassDef)]
    names += [(node.attr, node.lineno) for node in of(tree, ast.Attribute)]
    for name, line in names:
        if name in DUNDERS:
            continue
        if name in NEVER or NO_WORDS.search(name or "") or (name or "").startswith(BAD_BEGINNINGS):
            yield f"L12 L17 name {name}", line


def bound_names(tree):
    """Pairs (name, line) of all that is bound but methods and attributes."""
    methods = [item for node in of(tree, ast.ClassDef) for item in node.body]
    for node in of(tree, ast.FunctionDef, ast.ClassDef):
        if node not in methods:
            yield node.name, node.lineno
    for node in of(tree, ast.arg):
        yield node.arg, node.lineno
    for node in of(tree, ast.Name):
        if isinstance(node.ctx, ast.Store):
            yield node.id, node.lineno
    for node in of(tree, ast.ExceptHandler):
        if node.name:
            yield node.name, node.lineno


def binding_faults(tree):
    taken = set(dir(builtins))
    imported = {alias.name for node in of(tree, ast.ImportFrom) for alias in node.names}
    classes = {node.name for node in of(tree, ast.ClassDef)}
    functions = [node for node in tree.body if isinstance(node, (ast.FunctionDef, ast.ClassDef))]
    for name, line in bound_names(tree):
        if name in taken or name in imported:
            yield f"L15 name {name}", line
    for node in of(tree, ast.FunctionDef):
        for arg in of(node, ast.arg):
            if arg.arg in classes:
                yield f"L15 name {arg.arg}", node.lineno
    top = [node.name for node in functions]
    if len(top) != len(set(top)):
        yield "L15 bound twice", 1
    used = {node.id for node in of(tree, ast.Name)}
    for name in sorted(imported - used):
        yield f"unused import {name}", 1


def function_faults(tree):
    for node in of(tree, ast.FunctionDef):
        if node.end_lineno - node.lineno + 1 > 40:
            yield "L10 function", node.lineno
        kinds = [decorator.id for decorator in node.decorator_list if isinstance(decorator, ast.Name)]
        if len(kinds) != len(node.decorator_list) or not set(kinds) <= {"property", "classmethod"}:
            yield "L4 decorator", node.lineno
        if node.name.startswith("__") and node.name not in DUNDERS:
            yield "L5 method", node.lineno
        for default in [*node.args.defaults, *node.args.kw_defaults]:
            if default is not None and not isinstance(default, (ast.Constant, ast.UnaryOp, ast.Tuple)):
                yield "L4 default", node.lineno
        if node.name in ("__len__", "__repr__", "__str__"):
            last = node.body[-1]
            if not isinstance(last, ast.Return):
                yield "L28 return", node.lineno
            elif node.name == "__len__" and getattr(getattr(last.value, "func", None), "id", "") != "len":
                yield "L28 len", node.lineno
        if node.name == "__iter__" and len(node.body) != 1:
            yield "L5 iteration", node.lineno
        inner = [other for other in of(node, ast.FunctionDef) if other is not node]
        if inner:
            yield "nested function", node.lineno


def parents_of(tree):
    return {child: node for node in ast.walk(tree) for child in ast.iter_child_nodes(node)}


def called(node):
    return node.func.id if isinstance(node, ast.Call) and isinstance(node.func, ast.Name) else None


def is_iterated(node, parent):
    if isinstance(parent, (ast.For, ast.comprehension)):
        return parent.iter is node
    return called(parent) in ITERATORS and parent.args[0] is node or called(parent) in ("zip",)


def call_faults(tree, own):
    parents = parents_of(tree)
    for node in of(tree, ast.Call):
        name = called(node)
        if name in dir(builtins) and name not in BUILTINS:
            yield f"L8 builtin {name}", node.lineno
        if name in ITERATED and not is_iterated(node, parents[node]):
            yield f"L23 {name}", node.lineno
        if name == "set" and called(parents[node]) not in ("len", "sorted"):
            yield "L24 set", node.lineno
        if name in BUILTINS:
            for keyword in node.keywords:
                if (name, keyword.arg) not in (("sorted", "key"), ("sorted", "reverse"), ("min", "key"), ("max", "key")):
                    yield "L22 keyword", node.lineno
        if isinstance(node.func, ast.Attribute):
            attr = node.func.attr
            if attr not in METHODS and attr not in own:
                yield f"L25 method {attr}", node.lineno
            if attr in ("items", "keys", "values") and not is_iterated(node, parents[node]):
                yield f"L23 {attr}", node.lineno
            if attr in METHODS and node.keywords:
                yield "L25 keyword", node.lineno
    for node in of(tree, ast.Name):
        is_called = isinstance(parents[node], ast.Call) and parents[node].func is node
        in_isinstance = called(parents[node]) == "isinstance" or called(parents.get(parents[node])) == "isinstance"
        if node.id in ("len", "zip", "map", "sum", "sorted") and not is_called and not in_isinstance:
            yield f"L22 {node.id} as a value", node.lineno


def statement_faults(tree):
    for node in ast.walk(tree):
        name = node.__class__.__name__
        if name not in NODES and name != "FunctionType":
            yield f"L6 L7 {name}", getattr(node, "lineno", 0)
    for node in of(tree, ast.Compare):
        for sign, other in zip(node.ops, node.comparators):
            if isinstance(sign, (ast.Is, ast.IsNot)):
                if not isinstance(other, ast.Constant) or other.value not in (None, True, False):
                    yield "L20 is", node.lineno
    for node in of(tree, ast.ExceptHandler):
        caught = node.type.elts if isinstance(node.type, ast.Tuple) else [node.type]
        if not all(isinstance(kind, ast.Name) and kind.id not in dir(builtins) for kind in caught):
            yield "L19 handler", node.lineno
    for node in of(tree, ast.Raise):
        if node.exc is not None and (called(node.exc) is None or node.exc.keywords):
            yield "L19 raise", node.lineno
    for node in of(tree, ast.BinOp):
        if isinstance(node.op, ast.Pow) and not isinstance(node.right, ast.Constant):
            yield "L27 exponent", node.lineno
    for node in of(tree, ast.Set, ast.SetComp):
        yield "L24 written set", node.lineno


def reads(node, name):
    """Whether the name or attribute, as it is written, is read anywhere in node but inside a list(..) of its own."""
    if called(node) == "list":
        return False
    if isinstance(node, (ast.Name, ast.Attribute)) and ast.unparse(node) == name:
        return True
    return any(reads(child, name) for child in ast.iter_child_nodes(node))


def change_faults(tree):
    """+= and the like, extend and update, that get what they change."""
    for node in of(tree, ast.AugAssign):
        target = node.target
        while isinstance(target, ast.Subscript):
            target = target.value
        if reads(node.value, ast.unparse(target)):
            yield "L5 L23 what is changed", node.lineno
    for node in of(tree, ast.Call):
        if isinstance(node.func, ast.Attribute) and node.func.attr in ("extend", "update"):
            if any(reads(part, ast.unparse(node.func.value)) for part in node.args):
                yield "L5 L23 what is changed", node.lineno


def generator_names(trees):
    return {node.name for tree in trees for node in of(tree, ast.FunctionDef) if of(node, ast.Yield)}


def generator_faults(tree, generators):
    """Calls of generators that are not iterated at once, and yields that are no statements."""
    parents = parents_of(tree)
    for node in of(tree, ast.Yield):
        if not isinstance(parents[node], ast.Expr):
            yield "L23 yield", node.lineno
        above = parents[node]
        while not isinstance(above, ast.FunctionDef):
            above = parents[above]
            if isinstance(above, (ast.Try, ast.With)):
                yield "L23 yield in a try or with", node.lineno
    for node in of(tree, ast.Name, ast.Attribute):
        name = node.id if isinstance(node, ast.Name) else node.attr
        if name in generators:
            call = parents[node]
            if not isinstance(call, ast.Call) or call.func is not node or not is_iterated(call, parents[call]):
                yield f"L23 generator {name}", node.lineno


def top_faults(tree):
    for k, node in enumerate(tree.body):
        if isinstance(node, (ast.FunctionDef, ast.ClassDef, ast.ImportFrom)):
            continue
        if isinstance(node, ast.Expr) and isinstance(node.value, ast.Constant) and k == 0:
            continue
        plain = isinstance(node, ast.Assign) and isinstance(node.targets[0], ast.Name) and not of(node, ast.Call)
        if not plain:
            yield "L3 module level", node.lineno
    if of(tree, ast.Import):
        yield "L16 import", 1


def import_faults(tree, modules):
    """modules: the names bound at module level by each file, its own imports left out."""
    for node in of(tree, ast.ImportFrom):
        for alias in node.names:
            good = alias.asname is None and node.level == 0
            if node.module in OUTSIDE:
                good = good and alias.name in OUTSIDE[node.module]
            else:
                good = good and alias.name in modules.get(node.module, ())
            if not good:
                yield f"L2 L16 import {alias.name}", node.lineno


def defined_names(tree):
    names = [node.name for node in tree.body if isinstance(node, (ast.FunctionDef, ast.ClassDef))]
    return names + [node.targets[0].id for node in tree.body if isinstance(node, ast.Assign)]


def imported_modules(tree):
    return [node.module for node in of(tree, ast.ImportFrom)]


def rings_of_imports(imports):
    """The modules from which a way of imports leads back to them."""
    def reached(start):
        seen, waiting = set(), list(imports[start])
        while waiting:
            name = waiting.pop()
            if name not in seen:
                seen.add(name)
                waiting += imports.get(name, [])
        return seen
    return sorted(name for name in imports if name in reached(name))


def class_faults(trees):
    """Names that are a method here and an attribute there, or a property and a method."""
    methods, properties, attributes = set(), set(), set()
    for tree in trees:
        for node in of(tree, ast.ClassDef):
            for item in node.body:
                if isinstance(item, ast.FunctionDef):
                    kinds = [decorator.id for decorator in item.decorator_list]
                    (properties if "property" in kinds else methods).add(item.name)
        for node in of(tree, ast.Attribute):
            if isinstance(node.ctx, ast.Store):
                attributes.add(node.attr)
    return sorted((methods & properties) | (methods & attributes) | (properties & attributes))


def method_names(trees):
    return {item.name for tree in trees for node in of(tree, ast.ClassDef) for item in node.body
            if isinstance(item, ast.FunctionDef)}


def faults_of(text, modules, own, generators):
    tree = ast.parse(text)
    parts = (line_faults(text), string_faults(tree), name_faults(tree), binding_faults(tree), function_faults(tree),
             call_faults(tree, own), statement_faults(tree), top_faults(tree), import_faults(tree, modules),
             change_faults(tree), generator_faults(tree, generators))
    return [fault for part in parts for fault in part]

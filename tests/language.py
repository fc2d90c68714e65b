"""Looks over files of the package by the rules of LANGUAGE.md, as far as a look at the code can tell.

Each check returns a list of complaints (line, text). The checks are narrower than the rules where that is simpler:
what they forbid may be allowed in a special form that the package does not use.
"""

import ast
import builtins
import io
import tokenize

LIBRARY = {"heapq": {"heappush", "heappop", "heapify", "heapreplace", "heappushpop"},
           "math": {"gcd", "lcm", "isqrt", "comb", "perm", "factorial"},
           "itertools": {"product", "combinations", "permutations", "chain", "accumulate", "pairwise", "islice",
                         "zip_longest"},
           "collections": {"defaultdict"}}

BUILTINS = set("len range enumerate zip min max sum abs sorted reversed int str bool list tuple dict set isinstance ord"
               " repr any all divmod pow map iter next Exception ValueError TypeError KeyError IndexError LookupError"
               " ZeroDivisionError ArithmeticError OverflowError RuntimeError NotImplementedError AttributeError"
               " StopIteration NotImplemented property staticmethod classmethod super object".split())

METHODS = set("append clear copy count endswith extend find get index insert isalnum isalpha isdigit islower isspace"
              " isupper items join keys ljust lower lstrip partition pop remove replace reverse rfind rjust rpartition"
              " rsplit rstrip setdefault split splitlines startswith strip update upper values zfill bit_length title"
              " capitalize swapcase casefold center expandtabs removeprefix removesuffix rindex isascii isdecimal"
              " isnumeric istitle isidentifier isprintable add discard".split())

NOWHERE = set("register mro elements open input law version_info with_traceback add_note".split())
NO_NAMES = set("attrgetter breakpoint builtins compile copyright credits delattr dir eval exec exit gc getattr globals"
               " hasattr help id importlib license locals methodcaller os quit setattr super type vars sys".split())
NO_WORDS = set("typing typing_extensions enum Enum IntEnum StrEnum Flag IntFlag Generic Protocol ABC ABCMeta namedtuple"
               " NamedTuple TypedDict TYPE_CHECKING abstractmethod".split())
NO_PARTS = ("dataclass", "overload", "contextmanager", "_wall", "_WallAttr")

DOUBLE = set("__init__ __eq__ __repr__ __str__ __len__".split())
AT_ONCE = {"list", "tuple", "dict", "sorted", "sum", "any", "all", "enumerate", "zip", "min", "max"}
ITERATORS = {"zip", "enumerate", "reversed"}
VIEWS = {"items", "keys", "values"}
STATEMENTS = (ast.Assign, ast.AugAssign, ast.If, ast.While, ast.For, ast.Return, ast.Break, ast.Continue, ast.Pass,
              ast.Raise, ast.Assert, ast.Delete, ast.Expr, ast.FunctionDef, ast.ClassDef, ast.ImportFrom, ast.Try)


def complaints(text, own_methods=()):
    """All complaints about the text of a file. own_methods are the names of methods of the package's classes."""
    found = characters(text)
    tree = ast.parse(text)
    for node in ast.walk(tree):
        for child in ast.iter_child_nodes(node):
            child.parent = node
    for check in (imports, module_level, functions, classes, statements, numbers, strings, bound_names, used_names,
                  attributes, comparisons, iterations, sets, errors_raised):
        found.extend(check(tree))
    found.extend(method_calls(tree, own_methods))
    found.extend(words_of(text))
    return sorted(set(found))


def characters(text):
    """L10, L14: lines and characters."""
    found = []
    rows = text.split("\n")
    if len(rows) - 1 > 399:
        found.append((400, "L10 more than 399 lines"))
    for at, row in enumerate(rows, 1):
        if len(row) > 120:
            found.append((at, "L10 more than 120 characters"))
        if any(not " " <= letter <= "~" for letter in row):
            found.append((at, "L14 a character"))
    return found


def imports(tree):
    """L2, L16."""
    found = []
    for node in ast.walk(tree):
        if isinstance(node, ast.Import):
            found.append((node.lineno, "L16 import without from"))
        if isinstance(node, ast.ImportFrom):
            names = {alias.name for alias in node.names}
            if any(alias.asname for alias in node.names) or node.level or "*" in names:
                found.append((node.lineno, "L2 as, star or dot"))
            elif not node.module.startswith("needonce.") and not names <= LIBRARY.get(node.module, set()):
                found.append((node.lineno, "L2 from where"))
            if not isinstance(node.parent, ast.Module):
                found.append((node.lineno, "L2 not at the top"))
    return found


def module_level(tree):
    """L3, L15."""
    found = []
    names = []
    defined = set()
    for at, node in enumerate(tree.body):
        if isinstance(node, ast.FunctionDef):
            defined.add(node.name)
        if isinstance(node, (ast.FunctionDef, ast.ClassDef)):
            names.append((node.name, node.lineno))
        elif isinstance(node, ast.ImportFrom):
            names.extend([(alias.name, node.lineno) for alias in node.names])
        elif isinstance(node, ast.Assign) and len(node.targets) == 1 and isinstance(node.targets[0], ast.Name):
            names.append((node.targets[0].id, node.lineno))
            found.extend(plain_value(node.value, defined))
        elif not (at == 0 and isinstance(node, ast.Expr) and isinstance(node.value, ast.Constant)):
            found.append((node.lineno, "L3 at module level"))
    seen = set()
    for name, line in names:
        if name in seen:
            found.append((line, f"L15 {name} is bound twice"))
        seen.add(name)
    return found


def plain_value(value, defined):
    """Literals, and the names of functions that are defined above."""
    found = []
    for node in ast.walk(value):
        if not isinstance(node, (ast.Constant, ast.List, ast.Tuple, ast.Dict, ast.Name, ast.expr_context, ast.UnaryOp,
                                 ast.USub)) or (isinstance(node, ast.Name) and node.id not in defined):
            found.append((node.lineno if hasattr(node, "lineno") else value.lineno, "L3 not plain"))
        if node is not value and isinstance(node, (ast.List, ast.Dict)):
            found.append((node.lineno, "L15 a list or dict in a list, dict or tuple"))
    return found


def functions(tree):
    """L4, L10, L21."""
    found = []
    for node in ast.walk(tree):
        if isinstance(node, ast.FunctionDef):
            if node.end_lineno - node.lineno + 1 > 40:
                found.append((node.lineno, "L10 more than 40 lines"))
            if node.decorator_list and not is_property(node):
                found.append((node.lineno, "L4 a decorator"))
            for value in [*node.args.defaults, *node.args.kw_defaults]:
                if value is not None and not isinstance(value, (ast.Constant, ast.UnaryOp, ast.Tuple)):
                    found.append((node.lineno, "L4 a default value"))
            if node.name.startswith("__") and node.name not in DOUBLE:
                found.append((node.lineno, "L5 a double-underscore method"))
    return found


def is_property(node):
    """Whether this is a property that plainly changes nothing: a docstring, and a return without a call."""
    plain = [ast.unparse(decorator) for decorator in node.decorator_list] == ["property"]
    rows = [row for row in node.body if not (isinstance(row, ast.Expr) and isinstance(row.value, ast.Constant))]
    calls = [part for part in ast.walk(node) if isinstance(part, ast.Call)]
    return plain and isinstance(node.parent, ast.ClassDef) and not calls and [type(row) for row in rows] == [ast.Return]


def classes(tree):
    """L5, L18."""
    found = []
    for node in ast.walk(tree):
        if isinstance(node, ast.ClassDef):
            if node.decorator_list or node.keywords:
                found.append((node.lineno, "L5 a decorator or keyword"))
            for part in node.body:
                if not isinstance(part, ast.FunctionDef) and not (isinstance(part, ast.Expr)
                                                                  and isinstance(part.value, ast.Constant)):
                    found.append((part.lineno, "L5 in a class"))
            names = [part.name for part in node.body if isinstance(part, ast.FunctionDef)]
            stored = {part.attr for part in ast.walk(node) if isinstance(part, ast.Attribute)
                      and isinstance(part.ctx, ast.Store)}
            if len(names) != len(set(names)) or stored & set(names):
                found.append((node.lineno, "L18 a method twice, or also an attribute"))
    return found


def statements(tree):
    """L6, L7, L9."""
    found = []
    for node in ast.walk(tree):
        if isinstance(node, ast.stmt) and not isinstance(node, STATEMENTS):
            found.append((node.lineno, f"L6 {type(node).__name__}"))
        if isinstance(node, ast.Expr) and not isinstance(node.value, (ast.Call, ast.Constant)):
            found.append((node.lineno, "L6 an expression on its own"))
        if isinstance(node, (ast.Await, ast.Yield, ast.YieldFrom, ast.Lambda, ast.NamedExpr)):
            found.append((node.lineno, f"L7 {type(node).__name__}"))
        if isinstance(node, ast.GeneratorExp):
            call = node.parent
            if not (isinstance(call, ast.Call) and isinstance(call.func, ast.Name) and call.func.id in AT_ONCE):
                found.append((node.lineno, "L7 a generator expression"))
    return found


def numbers(tree):
    """L7, L27."""
    found = []
    for node in ast.walk(tree):
        if isinstance(node, ast.Constant) and isinstance(node.value, (float, complex, bytes)):
            found.append((node.lineno, "L7 a float or bytes"))
        if isinstance(node, (ast.BinOp, ast.AugAssign)) and isinstance(node.op, (ast.Div, ast.MatMult, ast.Pow)):
            found.append((node.lineno, "L7 an operator"))
    return found


def strings(tree):
    """L27."""
    found = []
    for node in ast.walk(tree):
        if isinstance(node, ast.Constant) and isinstance(node.value, str):
            text = node.value
            if "%" in text or text.endswith(("._", ".__")) or (text.startswith("__") and text.endswith("__")):
                found.append((node.lineno, "L27 a string"))
        if isinstance(node, ast.FormattedValue):
            if any(isinstance(part, ast.Constant) and isinstance(part.value, (str, bytes))
                   for part in ast.walk(node.value)):
                found.append((node.lineno, "L27 a string in the braces of an f-string"))
            if node.conversion not in (-1, ord("r"), ord("s")) or node.format_spec is not None:
                found.append((node.lineno, "L7 a format"))
    return found


def all_bound(tree):
    for node in ast.walk(tree):
        if isinstance(node, (ast.FunctionDef, ast.ClassDef)):
            yield node.name, node
        elif isinstance(node, ast.arg):
            yield node.arg, node
        elif isinstance(node, ast.Name) and isinstance(node.ctx, ast.Store):
            yield node.id, node
        elif isinstance(node, ast.ExceptHandler) and node.name:
            yield node.name, node
        elif isinstance(node, ast.ImportFrom):
            for alias in node.names:
                yield alias.name, node


def bound_names(tree):
    """L8, L12, L15, L17."""
    found = []
    shared = {alias.name for node in tree.body if isinstance(node, ast.ImportFrom) for alias in node.names}
    shared |= {node.name for node in tree.body if isinstance(node, ast.ClassDef)}
    for name, node in all_bound(tree):
        method = isinstance(node, ast.FunctionDef) and isinstance(node.parent, ast.ClassDef)
        if (name in dir(builtins) and not method) or name in NOWHERE or name in NO_NAMES or name in BUILTINS:
            found.append((node.lineno, f"L15, L17 the name {name}"))
        if not name.isascii() or (name.startswith("__") and not (method and name in DOUBLE)):
            found.append((node.lineno, f"L12 the name {name}"))
        if name in shared and isinstance(node, (ast.arg, ast.Name)):
            found.append((node.lineno, f"L15 {name} is also a class or an import"))
    for node in ast.walk(tree):
        if isinstance(node, ast.Name) and node.id == "_" and isinstance(node.ctx, ast.Load):
            found.append((node.lineno, "L12 _ is read"))
    return found


def used_names(tree):
    """L8, L22."""
    found = []
    known = {name for name, _ in all_bound(tree)}
    for node in ast.walk(tree):
        if isinstance(node, ast.Name) and node.id not in known and node.id not in BUILTINS:
            found.append((node.lineno, f"L8 {node.id}"))
        if isinstance(node, ast.Call) and isinstance(node.func, ast.Name) and node.func.id in BUILTINS:
            allowed = {"sorted": {"key", "reverse"}, "min": {"key", "default"}, "max": {"key", "default"},
                       "sum": {"start"}, "enumerate": {"start"}, "zip": {"strict"}}.get(node.func.id, set())
            if any(keyword.arg not in allowed for keyword in node.keywords):
                found.append((node.lineno, "L22 a keyword"))
        if isinstance(node, ast.Name) and node.id in BUILTINS and isinstance(node.ctx, ast.Load):
            call = node.parent
            in_place = (isinstance(call, ast.Call) and call.func is node) or isinstance(call, (ast.ClassDef, ast.Raise))
            in_place = in_place or (isinstance(call, ast.FunctionDef) and is_property(call))
            held = isinstance(call, ast.Call) and isinstance(call.func, ast.Name) and call.func.id == "isinstance"
            base = isinstance(call, ast.Attribute) and call.attr == "__init__"
            if not in_place and not held and not base:
                found.append((node.lineno, f"L22 {node.id} is not called"))
    return found


def attributes(tree):
    """L17, L26, L28."""
    found = []
    for node in ast.walk(tree):
        if isinstance(node, ast.Attribute):
            if node.attr in NOWHERE or (node.attr.startswith("__") and node.attr != "__init__"):
                found.append((node.lineno, f"L17 the attribute {node.attr}"))
            if isinstance(node.ctx, ast.Store) and node.attr in METHODS - {"count", "index", "title", "find", "get",
                                                                          "join", "lower", "upper", "split", "strip",
                                                                          "copy", "add"}:
                found.append((node.lineno, f"L26 the attribute {node.attr}"))
    return found


def method_calls(tree, own_methods):
    """L25."""
    found = []
    for node in ast.walk(tree):
        if isinstance(node, ast.Call) and isinstance(node.func, ast.Attribute):
            name = node.func.attr
            if name not in METHODS and name not in own_methods and name != "__init__":
                found.append((node.lineno, f"L25 the method {name}"))
            if name in METHODS and node.keywords:
                found.append((node.lineno, "L25 a keyword"))
    return found


def comparisons(tree):
    """L20."""
    found = []
    for node in ast.walk(tree):
        if isinstance(node, ast.Compare):
            for op, right in zip(node.ops, node.comparators):
                plain = isinstance(right, ast.Constant) and right.value in (None, True, False)
                if isinstance(op, (ast.Is, ast.IsNot)) and not plain:
                    found.append((node.lineno, "L20 is"))
    return found


def iterations(tree):
    """L23: what is only iterated at once, and what a loop changes."""
    found = []
    for node in ast.walk(tree):
        if isinstance(node, ast.Call) and is_iterator(node) and not at_once(node):
            found.append((node.lineno, "L23 not iterated at once"))
        if isinstance(node, ast.For):
            held = {ast.dump(part) for part in ast.walk(node.iter) if isinstance(part, (ast.Name, ast.Attribute))}
            for part in ast.walk(ast.Module(node.body, [])):
                if isinstance(part, ast.Call) and isinstance(part.func, ast.Attribute) and part.func.attr in (
                        "append", "extend", "pop", "clear", "insert", "remove", "update", "setdefault"):
                    if ast.dump(part.func.value) in held:
                        found.append((part.lineno, "L23 changed in its loop"))
    return found


def is_iterator(node):
    if isinstance(node.func, ast.Name):
        return node.func.id in ITERATORS
    return isinstance(node.func, ast.Attribute) and node.func.attr in VIEWS


def at_once(node):
    holder = node.parent
    if isinstance(holder, (ast.For, ast.comprehension)):
        return holder.iter is node
    return (isinstance(holder, ast.Call) and isinstance(holder.func, ast.Name) and holder.func.id in AT_ONCE
            and holder.args and holder.args[0] is node)


def sets(tree):
    """L24: the package has no use for sets so far."""
    found = []
    for node in ast.walk(tree):
        if isinstance(node, (ast.Set, ast.SetComp)):
            found.append((node.lineno, "L24 a set"))
        if isinstance(node, ast.Name) and node.id in ("set", "frozenset"):
            found.append((node.lineno, "L24 a set"))
    return found


def errors_raised(tree):
    """L6, L19: an error is made on the spot, by the name of its class; only own ones are caught, and named."""
    found = []
    for node in ast.walk(tree):
        if isinstance(node, ast.Try) and (node.finalbody or node.orelse):
            found.append((node.lineno, "L6 the package has no use for else and finally so far"))
        if isinstance(node, ast.ExceptHandler):
            if not isinstance(node.type, ast.Name) or node.type.id in dir(builtins):
                found.append((node.lineno, "L19 a handler"))
        if isinstance(node, ast.Raise) and node.exc is not None:
            if not (isinstance(node.exc, ast.Call) and isinstance(node.exc.func, ast.Name)):
                found.append((node.lineno, "L19 a raise"))
    return found


def words_of(text):
    """L12, L17, L27: words in the code and in its strings, but not in docstrings and comments; escapes."""
    found = []
    before = tokenize.NEWLINE
    for token in tokenize.generate_tokens(io.StringIO(text).readline):
        docstring = token.type == tokenize.STRING and before in (tokenize.NEWLINE, tokenize.INDENT, tokenize.NL,
                                                                 tokenize.COMMENT) and token.string.startswith('"""')
        if token.type == tokenize.NAME and token.string in NO_WORDS | {"type"}:
            found.append((token.start[0], f"L17 {token.string}"))
        if token.type == tokenize.STRING and not docstring:
            words = "".join(letter if letter.isalnum() or letter == "_" else " " for letter in token.string).split()
            if NO_WORDS & set(words):
                found.append((token.start[0], "L17 a word in a string"))
        if token.type == tokenize.STRING and "\\" in token.string:
            rest = token.string
            for escape in ("\\\\", "\\n", "\\t", "\\\"", "\\'"):
                rest = rest.replace(escape, "")
            if "\\" in rest:
                found.append((token.start[0], "L27 an escape"))
        if any(part in token.string for part in NO_PARTS):
            found.append((token.start[0], "L12, L17 a part of a word"))
        before = token.type
    return found

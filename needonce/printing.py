"""From a tree to its text, in one form.

A tree is first turned into words: names, numbers, signs and braces. Parts of which the words are not known yet are
(tree, need): the level that their place needs. A list of parts is worked off instead of calling itself again for each
part, so that deep trees are no matter.
"""

KIND_FUN_LEVEL = 0
KIND_CON_LEVEL = 1
KIND_ATOM_LEVEL = 2
DATA_PART_NEED = 2

APP_LEVEL = 5
ATOM_LEVEL = 6
EXPR_LEVELS = {"lam": 0, "let": 0, "if": 0, "case": 0, "note": 0, "app": 5, "var": 6, "con": 6, "num": 6, "list": 6}

# For each operator: its level, and what its left and its right place need.
OPERATORS = {"==": (1, 2, 2), "<": (1, 2, 2), "<=": (1, 2, 2), ":": (2, 3, 2), "+": (3, 3, 4), "-": (3, 3, 4),
             "*": (4, 4, 5), "div": (4, 4, 5), "mod": (4, 4, 5)}

NO_SPACE_BEHIND = ("(", "[", "\\")
NO_SPACE_BEFORE = (")", "]", ",")


def print_program(program):
    """Returns the text of a program, a row for each declaration."""
    return "".join([print_declaration(declaration) + "\n" for declaration in program])


def print_declaration(declaration):
    """Returns the text of a declaration."""
    return _joined(_words(_declaration_parts(declaration), _expr_parts))


def print_expr(expr):
    """Returns the text of an expression."""
    return _joined(_words([(expr, 0)], _expr_parts))


def print_kind(tree):
    """Returns the text of a type."""
    return _joined(_kind_words(tree, 0))


def _joined(words):
    pieces = []
    before = "("
    for word in words:
        if before not in NO_SPACE_BEHIND and word not in NO_SPACE_BEFORE:
            pieces.append(" ")
        pieces.append(word)
        before = word
    return "".join(pieces)


def _words(parts, parts_of):
    """The words of the parts, in order. parts_of tells the parts of a part that is no word."""
    words = []
    todo = parts[::-1]
    while todo:
        part = todo.pop()
        if isinstance(part, str):
            words.append(part)
        else:
            tree, need = part
            todo.extend(parts_of(tree, need)[::-1])
    return words


def _in_parentheses_if(needed, parts):
    if needed:
        return ["(", *parts, ")"]
    return parts


def _separated(members, sign):
    """The parts of all members, lists of parts, with the sign between them."""
    parts = []
    for at, member in enumerate(members):
        if at > 0:
            parts.append(sign)
        parts.extend(member)
    return parts


def _block_parts(members):
    return ["{", *_separated(members, ";"), "}"]


def _kind_words(tree, need):
    return _words([(tree, need)], _kind_parts)


def _kind_parts(tree, need):
    if tree[0] == "fun":
        _, argument, result = tree
        parts = [(argument, KIND_CON_LEVEL), "->", (result, KIND_FUN_LEVEL)]
        return _in_parentheses_if(KIND_FUN_LEVEL < need, parts)
    if tree[0] == "con" and tree[2]:
        parts = [tree[1], *[(argument, KIND_ATOM_LEVEL) for argument in tree[2]]]
        return _in_parentheses_if(KIND_CON_LEVEL < need, parts)
    return [tree[1]]


def _expr_parts(tree, need):
    parts_of = EXPR_PARTS[tree[0]]
    level = OPERATORS[tree[1]][0] if tree[0] == "op" else EXPR_LEVELS[tree[0]]
    return _in_parentheses_if(level < need, parts_of(tree))


def _name_parts(tree):
    return [tree[1]]


def _number_parts(tree):
    return [str(tree[1])]


def _app_parts(tree):
    return [(tree[1], APP_LEVEL), (tree[2], ATOM_LEVEL)]


def _op_parts(tree):
    _, sign, left, right = tree
    _, left_need, right_need = OPERATORS[sign]
    return [(left, left_need), sign, (right, right_need)]


def _lam_parts(tree):
    _, names, body = tree
    return ["\\", *names, "->", (body, 0)]


def _let_parts(tree):
    _, declarations, body = tree
    members = [_declaration_parts(declaration) for declaration in declarations]
    return ["let", *_block_parts(members), "in", (body, 0)]


def _if_parts(tree):
    _, condition, chosen, other = tree
    return ["if", (condition, 0), "then", (chosen, 0), "else", (other, 0)]


def _case_parts(tree):
    _, examined, alternatives = tree
    members = [[*_pattern_words(pattern), "->", (body, 0)] for pattern, body in alternatives]
    return ["case", (examined, 0), "of", *_block_parts(members)]


def _pattern_words(pattern):
    if pattern[0] == "pcon":
        return [pattern[1], *pattern[2]]
    return [str(pattern[1])]


def _list_parts(tree):
    return ["[", *_separated([[(member, 0)] for member in tree[1]], ","), "]"]


def _note_parts(tree):
    _, number, body = tree
    return ["note", str(number), (body, 0)]


EXPR_PARTS = {"var": _name_parts, "con": _name_parts, "num": _number_parts, "app": _app_parts, "op": _op_parts,
              "lam": _lam_parts, "let": _let_parts, "if": _if_parts, "case": _case_parts, "list": _list_parts,
              "note": _note_parts}


def _declaration_parts(declaration):
    parts_of = DECLARATION_PARTS[declaration[0]]
    return parts_of(declaration)


def _data_parts(declaration):
    _, name, parameters, constructors = declaration
    members = []
    for constructor, kinds in constructors:
        words = [constructor]
        for kind in kinds:
            words.extend(_kind_words(kind, DATA_PART_NEED))
        members.append(words)
    return ["data", name, *parameters, "=", *_separated(members, "|")]


def _class_parts(declaration):
    _, name, variable, methods = declaration
    members = [[method, "::", *_kind_words(kind, 0)] for method, kind in methods]
    return ["class", name, variable, "where", *_block_parts(members)]


def _instance_parts(declaration):
    _, context, class_name, head, names, methods = declaration
    head_words = _in_parentheses_if(len(names) > 0, [head, *names])
    members = [_define_parts(("define", *method)) for method in methods]
    return ["instance", *_context_words(context), class_name, *head_words, "where", *_block_parts(members)]


def _context_words(context):
    if not context:
        return []
    words = _separated([list(pair) for pair in context], ",")
    return [*_in_parentheses_if(len(context) > 1, words), "=>"]


def _sign_parts(declaration):
    _, name, context, kind = declaration
    return [name, "::", *_context_words(context), *_kind_words(kind, 0)]


def _define_parts(declaration):
    _, name, parameters, body = declaration
    return [name, *parameters, "=", (body, 0)]


DECLARATION_PARTS = {"data": _data_parts, "class": _class_parts, "instance": _instance_parts, "sign": _sign_parts,
                     "define": _define_parts}

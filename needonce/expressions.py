"""Reading expressions, patterns and definitions."""

from needonce.kinds import read_rest_of_sign
from needonce.reader import read_block

COMPARISONS = ("==", "<", "<=")
SUMS = ("+", "-")
PRODUCTS = ("*", "div", "mod")
OPERATORS = ("==", "<", "<=", ":", "+", "-", "*", "div", "mod")


def read_expr(reader):
    """Reads an expression."""
    read_form = FORMS.get(reader.front())
    if read_form is None:
        return _read_operators(reader)
    return read_form(reader)


def _read_lambda(reader):
    reader.skip("\\")
    first = reader.take("name")
    names = (first, *reader.take_names())
    reader.skip("->")
    return ("lam", names, read_expr(reader))


def _read_let(reader):
    reader.skip("let")
    declarations = read_block(reader, read_local)
    reader.skip("in")
    return ("let", declarations, read_expr(reader))


def _read_if(reader):
    reader.skip("if")
    condition = read_expr(reader)
    reader.skip("then")
    chosen = read_expr(reader)
    reader.skip("else")
    return ("if", condition, chosen, read_expr(reader))


def _read_case(reader):
    reader.skip("case")
    examined = read_expr(reader)
    reader.skip("of")
    return ("case", examined, read_block(reader, _read_alternative, 1))


def _read_note(reader):
    reader.skip("note")
    number = int(reader.take("number"))
    return ("note", number, read_expr(reader))


FORMS = {"\\": _read_lambda, "let": _read_let, "if": _read_if, "case": _read_case, "note": _read_note}


def _read_operators(reader):
    operands = [_read_apply(reader)]
    signs = []
    while reader.front() in OPERATORS:
        # Comparisons do not group: a second one in a row is no part of it, and so the caller refuses it.
        if reader.front() in COMPARISONS and any(sign in COMPARISONS for sign in signs):
            break
        signs.append(reader.front())
        reader.skip(reader.front())
        operands.append(_read_apply(reader))
    operands, signs = _grouped_left(operands, signs, PRODUCTS)
    operands, signs = _grouped_left(operands, signs, SUMS)
    return _grouped_comparison(operands, signs)


def _grouped_left(operands, signs, members):
    """The operands and signs that are left when the operators with these signs are put together, from the left."""
    grouped = [operands[0]]
    rest = []
    for sign, operand in zip(signs, operands[1:]):
        if sign in members:
            grouped[-1] = ("op", sign, grouped[-1], operand)
        else:
            rest.append(sign)
            grouped.append(operand)
    return grouped, rest


def _grouped_comparison(operands, signs):
    """The tree of operands between which are only the sign : and at most one comparison."""
    for at, sign in enumerate(signs):
        if sign in COMPARISONS:
            return ("op", sign, _grouped_right(operands[:at + 1]), _grouped_right(operands[at + 1:]))
    return _grouped_right(operands)


def _grouped_right(operands):
    tree = operands[-1]
    for operand in reversed(operands[:-1]):
        tree = ("op", ":", operand, tree)
    return tree


def _read_apply(reader):
    tree = _read_atom(reader)
    while reader.front_kind() in ("name", "con", "number") or reader.front() in ("(", "["):
        tree = ("app", tree, _read_atom(reader))
    return tree


def _read_atom(reader):
    kind = reader.front_kind()
    if kind == "name":
        return ("var", reader.take("name"))
    if kind == "con":
        return ("con", reader.take("con"))
    if kind == "number":
        return ("num", int(reader.take("number")))
    if reader.front() == "[":
        return _read_list(reader)
    reader.skip("(")
    tree = read_expr(reader)
    reader.skip(")")
    return tree


def _read_list(reader):
    reader.skip("[")
    members = []
    if reader.front() != "]":
        members.append(read_expr(reader))
        while reader.skip_if(","):
            members.append(read_expr(reader))
    reader.skip("]")
    return ("list", tuple(members))


def _read_alternative(reader):
    pattern = _read_pattern(reader)
    reader.skip("->")
    return (pattern, read_expr(reader))


def _read_pattern(reader):
    kind = reader.front_kind()
    if kind == "con":
        name = reader.take("con")
        return ("pcon", name, reader.take_names())
    if kind == "number":
        return ("pnum", int(reader.take("number")))
    if reader.skip_if("["):
        reader.skip("]")
        return ("pcon", "Nil", ())
    name = reader.take("name")
    if reader.skip_if(":"):
        return ("pcon", "Cons", (name, reader.take("name")))
    return ("pname", name)


def read_local(reader):
    """Reads a signature or a definition."""
    name = reader.take("name")
    if reader.front() == "::":
        return read_rest_of_sign(reader, name)
    return _read_rest_of_define(reader, name)


def read_define(reader):
    """Reads a definition."""
    return _read_rest_of_define(reader, reader.take("name"))


def _read_rest_of_define(reader, name):
    parameters = reader.take_names()
    reader.skip("=")
    return ("define", name, parameters, read_expr(reader))

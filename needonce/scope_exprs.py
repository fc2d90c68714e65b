"""What must hold for the names in expressions.

What is left to examine is a list of pairs (tree, scope). A scope is a dict of the names that are bound around the
tree. Examining a tree gives the pairs that are to be examined next: a list is worked off instead of calling itself
again for each part, so that deep trees are no matter.
"""

from needonce.errors import DoubleName, MissingName, UnknownName, WrongCount
from needonce.scope_kinds import check_signature
from needonce.top import check_distinct
from needonce.trees import definitions_of, pattern_names, plain_parts, signatures_of, with_names


def check_definition(top, parameters, expr):
    """Examines the parameters and the expression of a definition at the top or in an instance."""
    todo = [(("define", "", parameters, expr), {})]
    while todo:
        tree, scope = todo.pop()
        examine = EXAMINERS.get(tree[0], _examine_parts)
        todo.extend(examine(top, tree, scope)[::-1])


def _examine_parts(top, tree, scope):
    return [(part, scope) for part in plain_parts(tree)]


def _examine_variable(top, tree, scope):
    if tree[1] not in scope and tree[1] not in top.value_names:
        raise UnknownName("value", tree[1])
    return []


def _check_constructor_known(top, name):
    if name not in top.constructors:
        raise UnknownName("constructor", name)


def _examine_constructor(top, tree, scope):
    _check_constructor_known(top, tree[1])
    return []


def _examine_lambda(top, tree, scope):
    _, names, body = tree
    check_distinct("variable", names)
    return [(body, with_names(scope, names))]


def _examine_define(top, tree, scope):
    _, _, parameters, body = tree
    check_distinct("variable", parameters)
    return [(body, with_names(scope, parameters))]


def _examine_let(top, tree, scope):
    _, declarations, body = tree
    definitions = definitions_of(declarations)
    signatures = signatures_of(declarations)
    names = [definition[1] for definition in definitions]
    check_distinct("value", names)
    check_distinct("signature", [signature[1] for signature in signatures])
    for _, name, context, kind in signatures:
        if name not in names:
            raise MissingName("definition", name)
        check_signature(top, context, kind)
    inner = with_names(scope, names)
    return [*[(definition, inner) for definition in definitions], (body, inner)]


def _examine_case(top, tree, scope):
    _, examined, alternatives = tree
    found = [(examined, scope)]
    seen = {}
    for pattern, body in alternatives:
        # A pattern that is a name takes everything: nothing may follow it.
        repeated = pattern[:2] in seen or "pname" in seen
        found.append((("alternative", pattern, body, repeated), scope))
        seen[pattern[:2]] = True
        if pattern[0] == "pname":
            seen["pname"] = True
    return found


def _examine_alternative(top, tree, scope):
    _, pattern, body, repeated = tree
    names = pattern_names(pattern)
    if pattern[0] == "pcon":
        _check_constructor_known(top, pattern[1])
        if len(names) != top.constructors[pattern[1]]:
            raise WrongCount("constructor", pattern[1])
        check_distinct("variable", names)
    if repeated:
        raise DoubleName("alternative", f"{pattern[1]}")
    return [(body, with_names(scope, names))]


EXAMINERS = {"var": _examine_variable, "con": _examine_constructor, "lam": _examine_lambda, "let": _examine_let,
             "define": _examine_define, "case": _examine_case, "alternative": _examine_alternative}

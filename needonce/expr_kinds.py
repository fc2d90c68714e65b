"""The types of expressions.

For each kind of expression there is a function. It says what the type of the expression has to do with those of its
parts, and returns the tasks that are left, the next one first: those of the parts, and then one that makes the term.
"""

from needonce.binding import group_tasks
from needonce.building import constructor_term
from needonce.declared import signed_schemes
from needonce.expressions import COMPARISONS
from needonce.trees import definitions_of, pattern_names
from needonce.types import BOOL, INT, function, list_of, replace_names


def expr_tasks(work, tree, scope, kind):
    """Returns the tasks of an expression that must have this type."""
    find = EXPRS[tree[0]]
    return find(work, tree, scope, kind)


def function_tasks(work, names, body, scope, kind):
    """Returns the tasks of a function with these parameters, any number of them, that must have this type."""
    kinds = tuple([work.unifier.fresh() for _ in names])
    result = work.unifier.fresh()
    work.unifier.unify(kind, function(kinds, result))
    return [("expr", body, scope.with_names(names, kinds), result), ("make", "lams", names, 1)]


def _variable(work, tree, scope, kind):
    entry = scope.entry(tree[1])
    if entry[0] == "scheme":
        work.use(tree, entry[1], kind)
    else:
        work.unifier.unify(entry[1], kind)
        work.done.append(entry[2])
    return []


def _constructor(work, tree, scope, kind):
    declared = work.declared
    name = tree[1]
    work.use(constructor_term(declared.tags[name], declared.counts[name]), declared.constructors[name], kind)
    return []


def _number(work, tree, scope, kind):
    work.unifier.unify(INT, kind)
    work.done.append(tree)
    return []


def _application(work, tree, scope, kind):
    argument = work.unifier.fresh()
    return [("expr", tree[1], scope, ("fun", argument, kind)), ("expr", tree[2], scope, argument),
            ("make", "app", None, 2)]


def _operator(work, tree, scope, kind):
    _, sign, left, right = tree
    if sign == ":":
        member = work.unifier.fresh()
        work.unifier.unify(list_of(member), kind)
        return [("expr", left, scope, member), ("expr", right, scope, kind), ("make", "cons", None, 2)]
    work.unifier.unify(BOOL if sign in COMPARISONS else INT, kind)
    return [("expr", left, scope, INT), ("expr", right, scope, INT), ("make", "prim", sign, 2)]


def _list(work, tree, scope, kind):
    member = work.unifier.fresh()
    work.unifier.unify(list_of(member), kind)
    tasks = [("expr", part, scope, member) for part in tree[1]]
    return [*tasks, ("make", "list", None, len(tasks))]


def _lambda(work, tree, scope, kind):
    return function_tasks(work, tree[1], tree[2], scope, kind)


def _if(work, tree, scope, kind):
    return [("expr", tree[1], scope, BOOL), ("expr", tree[2], scope, kind), ("expr", tree[3], scope, kind),
            ("make", "if", None, 3)]


def _note(work, tree, scope, kind):
    return [("expr", tree[2], scope, kind), ("make", "note", tree[1], 1)]


def _case(work, tree, scope, kind):
    _, examined, alternatives = tree
    examined_kind = work.unifier.fresh()
    tasks = [("expr", examined, scope, examined_kind)]
    for pattern, body in alternatives:
        inner = scope.with_names(pattern_names(pattern), _pattern_kinds(work, pattern, examined_kind))
        tasks.append(("expr", body, inner, kind))
    extra = ([pattern for pattern, _ in alternatives], work.declared.tags)
    return [*tasks, ("make", "case", extra, len(tasks))]


def _pattern_kinds(work, pattern, kind):
    """The types of the names of a pattern that must have this type."""
    if pattern[0] == "pname":
        return [kind]
    if pattern[0] == "pnum":
        work.unifier.unify(INT, kind)
        return []
    variables, _, whole = work.declared.constructors[pattern[1]]
    rest = replace_names(whole, {variable: work.unifier.fresh() for variable in variables})
    kinds = []
    for _ in pattern[2]:
        kinds.append(rest[1])
        rest = rest[2]
    work.unifier.unify(rest, kind)
    return kinds


def _let(work, tree, scope, kind):
    _, declarations, body = tree
    definitions = tuple(definitions_of(declarations))
    inner = scope.within()
    if not definitions:
        return [("expr", body, inner, kind)]
    schemes = signed_schemes(declarations)
    for name, scheme in schemes.items():
        inner.names[name] = ("scheme", scheme)
    order = []
    tasks = []
    for group, task in group_tasks(definitions, schemes, inner, inner.names, {}):
        order.extend(group)
        tasks.append(task)
    names = [definition[1] for definition in definitions]
    return [*tasks, ("expr", body, inner, kind), ("make", "let", (order, names), len(names) + 1)]


EXPRS = {"var": _variable, "con": _constructor, "num": _number, "app": _application, "op": _operator, "list": _list,
         "lam": _lambda, "if": _if, "note": _note, "case": _case, "let": _let}

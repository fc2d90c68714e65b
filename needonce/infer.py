"""The types of a program, group by group."""

from needonce.binding import (close_group, close_signed, give, group_tasks, method_tasks, open_group, open_signed,
                              renamed_apart)
from needonce.building import lams, make_term
from needonce.declared import Declared
from needonce.errors import Ambiguous, CannotUnify, IllTyped, NoInstance
from needonce.expr_kinds import expr_tasks, function_tasks
from needonce.scopes import BUILT_IN
from needonce.trees import definitions_of
from needonce.types import INT, list_of, replace_names, variables_of
from needonce.work import Scope, Work


def infer_program(declarations):
    """Returns the pairs (name, scheme) of the definitions at the top, in ascending order of names."""
    schemes, _ = checked_program(declarations)
    return tuple([(name, schemes[name]) for name in sorted(schemes)])


def checked_program(declarations):
    """Returns the schemes of the definitions at the top, and the terms of these and of the instances, by names."""
    declared = Declared(BUILT_IN + declarations)
    work = Work(declared)
    scope = Scope({}, {}, ())
    for name, scheme in declared.schemes.items():
        scope.top[name] = ("scheme", scheme)
    definitions = tuple(definitions_of(declarations))
    terms = _checked_groups(work, definitions, scope)
    for declaration in declarations:
        if declaration[0] == "instance":
            terms[f"{declaration[2]}.{declaration[3]}"] = _checked_instance(work, declaration, scope)
    return {definition[1]: scope.top[definition[1]][1] for definition in definitions}, terms


def _checked_groups(work, definitions, scope):
    """The terms of the definitions at the top, by their names."""
    signed = {name: work.declared.schemes[name] for _, name, _, _ in definitions if name in work.declared.schemes}
    main_kind = list_of(INT)
    terms = {}
    for names, task in group_tasks(definitions, signed, scope, scope.top, {"main": main_kind}):
        if names[0] == "main" and "main" in signed and signed["main"][2] != main_kind:
            raise IllTyped("main")
        for name, term in zip(names, _checked(work, [task], names[0])):
            terms[name] = term
    return terms


def _checked_instance(work, declaration, scope):
    """The term of an instance. All its methods share its parameters."""
    _, context, class_name, head, parameters, methods = declaration
    names = renamed_apart(work, parameters)
    dictionaries = give(work, context, names)
    whole = ("con", head, tuple([names[parameter] for parameter in parameters]))
    variable, wanted = work.declared.classes[class_name]
    bodies = {method: (own, body) for method, own, body in methods}
    terms = []
    for method, kind in wanted:
        own, body = bodies[method]
        kinds = renamed_apart(work, variables_of(kind))
        kinds[variable] = whole
        tasks = method_tasks(work, own, body, replace_names(kind, kinds), scope)
        terms.extend(_checked(work, tasks, f"{class_name}.{head}.{method}"))
    return lams(dictionaries, ("con", 0, tuple(terms)))


def _checked(work, tasks, name):
    """The terms of a group at the top, or of a method, which has this name in errors."""
    try:
        _do(work, tasks)
    except CannotUnify:
        raise IllTyped(name) from None
    if work.failed:
        raise NoInstance(name)
    if work.ambiguous:
        raise Ambiguous(name)
    terms = [work.filled(term) for term in work.done]
    work.done.clear()
    return terms


def _do(work, tasks):
    """Does tasks, and all that come of them."""
    work.todo.extend(tasks[::-1])
    while work.todo:
        task = work.todo.pop()
        work.todo.extend(_begin(work, task)[::-1])


def _begin(work, task):
    """Begins a task. Returns the tasks that come of it, the next one first."""
    word = task[0]
    if word == "expr":
        _, tree, scope, kind = task
        return expr_tasks(work, tree, scope, kind)
    if word == "function":
        _, names, body, scope, kind = task
        return function_tasks(work, names, body, scope, kind)
    if word == "group":
        return open_group(work, task)
    if word == "close group":
        return close_group(work, task)
    if word == "signed":
        return open_signed(work, task)
    if word == "close signed":
        return close_signed(work, task)
    return _make(work, task)


def _make(work, task):
    _, word, extra, many = task
    start = len(work.done) - many
    work.done[start:] = [make_term(word, extra, work.done[start:])]
    return []

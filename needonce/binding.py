"""The types of groups, and of definitions that have a signature."""

from needonce.building import lams
from needonce.errors import CannotUnify
from needonce.groups import binding_groups
from needonce.needs import hand_on, reduce_needs
from needonce.types import metas_of, replace_leaves, replace_names, variable_name, variables_of


def group_tasks(definitions, schemes, scope, entries, wanted):
    """Returns the groups of definitions, in order, each as a pair of its names and the task of checking it.

    The schemes are those of the names with signatures, the entries those into which the names are put, and wanted has
    the types that some names must have.
    """
    by_name = {definition[1]: definition for definition in definitions}
    groups = []
    for names in binding_groups(definitions, tuple(schemes)):
        if names[0] in schemes:
            task = ("signed", by_name[names[0]], schemes[names[0]], scope)
        else:
            task = ("group", [by_name[name] for name in names], scope, entries, wanted)
        groups.append((names, task))
    return groups


def open_group(work, task):
    """Begins a group without signatures: each name gets a type."""
    _, definitions, scope, entries, wanted = task
    members = []
    for _, name, _, _ in definitions:
        kind = work.unifier.fresh()
        hole = work.number()
        entries[name] = ("one", kind, ("hole", hole))
        members.append((name, kind, hole))
        if name in wanted:
            work.unifier.unify(kind, wanted[name])
    inner = scope.with_more_around([kind for _, kind, _ in members])
    work.needs.append([])
    tasks = []
    for (_, _, parameters, body), (_, kind, _) in zip(definitions, members):
        tasks.append(("function", parameters, body, inner, kind))
    tasks.append(("close group", members, scope, entries))
    return tasks


def close_group(work, task):
    """Ends a group without signatures: its types are generalised."""
    _, members, scope, entries = task
    around = work.leaves_around(scope, metas_of)
    kinds = [work.unifier.resolve(kind) for _, kind, _ in members]
    own = {}
    for kind in kinds:
        for meta in metas_of(kind):
            if meta not in around:
                own[meta] = True
    context = _close_needs(work, own, around)
    start = len(work.done) - len(members)
    for at, (name, _, hole) in enumerate(members):
        scheme, parameters = _generalised(work, kinds[at], own, context)
        entries[name] = ("scheme", scheme)
        term = ("var", name)
        for parameter in parameters:
            term = ("app", term, ("var", parameter))
        work.holes[hole] = term
        work.done[start + at] = lams(parameters, work.done[start + at])
    return []


def _close_needs(work, own, around):
    """Reduces the needs of a group. Returns the parameters for those on its own metas, by pairs (class, meta)."""
    context = {}
    others = []
    for class_name, meta, hole in reduce_needs(work, work.needs.pop()):
        if meta in own:
            pair = (class_name, meta)
            if pair not in context:
                context[pair] = f"d.{work.number()}"
            work.holes[hole] = ("var", context[pair])
        else:
            others.append((class_name, meta, hole))
    hand_on(work, others, around)
    return context


def _generalised(work, kind, own, context):
    """The scheme of a type, and the parameters for the dictionaries of its context, in order."""
    metas = [meta for meta in metas_of(kind) if meta in own]
    places = {meta: place for place, meta in enumerate(metas)}
    pairs = []
    for (class_name, meta), parameter in context.items():
        if meta in places:
            pairs.append((places[meta], class_name, parameter))
        else:
            work.ambiguous = True
    pairs = sorted(pairs)
    names = {meta: variable_name(place) for place, meta in enumerate(metas)}
    named = {meta: ("name", name) for meta, name in names.items()}
    scheme = (tuple([names[meta] for meta in metas]),
              tuple([(class_name, variable_name(place)) for place, class_name, _ in pairs]),
              replace_leaves(kind, "meta", named, False))
    return scheme, [parameter for _, _, parameter in pairs]


def open_signed(work, task):
    """Begins a definition with a signature: the variables of the signature are like constructors of their own."""
    _, (_, _, parameters, body), (variables, context, kind), scope = task
    names = renamed_apart(work, variables)
    dictionaries = give(work, context, names)
    tasks = method_tasks(work, parameters, body, replace_names(kind, names), scope)
    return [*tasks, ("make", "lams", dictionaries, 1)]


def renamed_apart(work, variables):
    """Returns a dict with a named variable that was not there before for each of these variables."""
    return {variable: ("name", f"{variable}.{work.number()}") for variable in variables}


def give(work, context, names):
    """Notes the pairs of a context as given. Returns the list of the parameters for their dictionaries."""
    dictionaries = []
    for class_name, variable in context:
        dictionary = f"d.{work.number()}"
        work.given[(class_name, names[variable][1])] = dictionary
        dictionaries.append(dictionary)
    return dictionaries


def method_tasks(work, parameters, body, kind, scope):
    """Returns the tasks of a function that must have this type, in which the named variables are its own."""
    work.needs.append([])
    return [("function", parameters, body, scope, kind), ("close signed", variables_of(kind), scope)]


def close_signed(work, task):
    """Ends a definition with a signature: no name around it may have a type with the variables of the signature."""
    _, variables, scope = task
    outside = work.leaves_around(scope, variables_of)
    for variable in variables:
        if variable in outside:
            raise CannotUnify()
    hand_on(work, reduce_needs(work, work.needs.pop()), work.leaves_around(scope, metas_of))
    return []

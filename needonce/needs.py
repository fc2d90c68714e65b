"""Reducing needs, and filling the holes of their dictionaries."""

from needonce.building import applied


def reduce_needs(work, needs):
    """Reduces needs. Returns those that are left, triples of a class, the number of a meta and a hole."""
    left = []
    todo = needs[::-1]
    while todo:
        class_name, kind, hole = todo.pop()
        kind = work.unifier.shown(kind)
        if kind[0] == "meta":
            left.append((class_name, kind[1], hole))
        elif kind[0] == "name" and (class_name, kind[1]) in work.given:
            work.holes[hole] = ("var", work.given[(class_name, kind[1])])
        elif kind[0] == "con" and (class_name, kind[1]) in work.declared.instances:
            todo.extend(_needs_of_instance(work, class_name, kind, hole)[::-1])
        else:
            work.failed = True
    return left


def _needs_of_instance(work, class_name, kind, hole):
    """The needs by which the one on a type constructor is replaced."""
    _, head, arguments = kind
    context, parameters = work.declared.instances[(class_name, head)]
    kinds = dict(zip(parameters, arguments))
    needs = [(wanted, kinds[variable], work.number()) for wanted, variable in context]
    dictionaries = [("hole", number) for _, _, number in needs]
    work.holes[hole] = applied(("var", f"{class_name}.{head}"), dictionaries)
    return needs


def hand_on(work, left, around):
    """Hands needs on to the definition or group around, those on other metas than the ones around excepted."""
    for class_name, meta, hole in left:
        if meta in around:
            work.needs[-1].append((class_name, ("meta", meta), hole))
        else:
            work.ambiguous = True

"""Free names, and the groups of definitions that need each other."""

from heapq import heappush, heappop

from needonce.trees import definitions_of, pattern_names, plain_parts, with_names


def free_values(expression):
    """Returns the variables that occur free in an expression, in ascending order."""
    found = {}
    todo = [(expression, {})]
    while todo:
        tree, bound = todo.pop()
        if tree[0] == "var":
            if tree[1] not in bound:
                found[tree[1]] = True
        else:
            todo.extend(_parts(tree, bound))
    return tuple(sorted(found))


def _parts(tree, bound):
    """The expressions in an expression that is no variable, each with what is bound around it."""
    if tree[0] == "lam":
        return [(tree[2], with_names(bound, tree[1]))]
    if tree[0] == "let":
        definitions = definitions_of(tree[1])
        inner = with_names(bound, [definition[1] for definition in definitions])
        bodies = [(body, with_names(inner, parameters)) for _, _, parameters, body in definitions]
        return [*bodies, (tree[2], inner)]
    if tree[0] == "case":
        bodies = [(body, with_names(bound, pattern_names(pattern))) for pattern, body in tree[2]]
        return [(tree[1], bound), *bodies]
    return [(part, bound) for part in plain_parts(tree)]


def binding_groups(definitions, signed):
    """Returns the groups of definitions with distinct names, of which these are signed, as tuples of names."""
    needs = _needs(definitions, signed)
    group_of = _group_of(needs)
    members = {}
    for at in range(len(definitions)):
        members.setdefault(group_of[at], []).append(at)
    groups = list(members.values())
    found = []
    for k in _group_order(groups, needs):
        found.append(tuple([definitions[member][1] for member in groups[k]]))
    return tuple(found)


def _needs(definitions, signed):
    """For each definition the indexes of those that it needs."""
    places = {}
    for at, (_, name, _, _) in enumerate(definitions):
        if name not in signed:
            places[name] = at
    needs = []
    for _, _, parameters, body in definitions:
        needs.append([places[name] for name in free_values(body) if name in places and name not in parameters])
    return needs


def _group_of(needs):
    """For each definition a number that those of its group share, and no others."""
    needed_by = [[] for _ in needs]
    for at, others in enumerate(needs):
        for other in others:
            needed_by[other].append(at)
    group_of = {}
    for start in reversed(_left_order(needs)):
        # Taken in this order, those that need the start by way of others and have no group yet are just its circle.
        todo = [start]
        while todo:
            at = todo.pop()
            if at not in group_of:
                group_of[at] = start
                todo.extend(needed_by[at])
    return group_of


def _left_order(needs):
    """The indexes in the order in which a walk along the needs, depth first, has done with them."""
    order = []
    seen = {}
    for start in range(len(needs)):
        todo = [(start, False)]
        while todo:
            at, done = todo.pop()
            if done:
                order.append(at)
            elif at not in seen:
                seen[at] = True
                todo.append((at, True))
                todo.extend([(other, False) for other in needs[at]])
    return order


def _group_order(groups, needs):
    """The indexes of the groups in an order in which each comes after those that it needs, the first ones first."""
    place = {}
    for k, group in enumerate(groups):
        for at in group:
            place[at] = k
    waits = [_needed_groups(k, groups, needs, place) for k in range(len(groups))]
    needed_by = [[] for _ in groups]
    for k, others in enumerate(waits):
        for other in others:
            needed_by[other].append(k)
    missing = [len(others) for others in waits]
    ready = [k for k, many in enumerate(missing) if many == 0]
    order = []
    while ready:
        k = heappop(ready)
        order.append(k)
        for other in needed_by[k]:
            missing[other] -= 1
            if missing[other] == 0:
                heappush(ready, other)
    return order


def _needed_groups(k, groups, needs, place):
    """The other groups that a group needs, each once."""
    found = {}
    for at in groups[k]:
        for other in needs[at]:
            if place[other] != k:
                found[place[other]] = True
    return list(found)

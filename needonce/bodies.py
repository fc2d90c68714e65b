"""What bodies and delayed things of the normal form consist of: their atoms, what stands in them, and their names."""

from needonce.parts import parts_of, scopes_of

# These have the form that they have in the core, with bodies and delayed things in the place of terms.
CORE_WORDS = ("let", "seq", "case", "pick", "note")


def atoms_of(thing):
    """Returns the tuple of the atoms directly in a body or a delayed thing, from left to right.

    The name of the function of a part is not among them: it is looked up among the functions alone.
    """
    word = thing[0]
    if word == "atom":
        return (thing[1],)
    if word == "call":
        return (thing[1], *thing[2])
    if word in ("con", "part"):
        return thing[2]
    return thing[2:] if word == "prim" else ()


def inner_of(thing):
    """Returns the list of what stands directly in a body or a delayed thing, from left to right.

    Its members are pairs of the names that the thing binds there, a tuple, and a body or a delayed thing.
    """
    if thing[0] == "later":
        return [((), thing[1])]
    if thing[0] in CORE_WORDS:
        return list(zip(scopes_of(thing), parts_of(thing)))
    return []


def free_atoms(thing):
    """Returns the list of the names that occur free in a body or a delayed thing, each one once."""
    found = {}
    bound = {}
    todo = [(thing, (), 0)]
    while todo:
        part, names, change = todo.pop()
        if change != 0:
            for name in names:
                bound[name] = bound.get(name, 0) + change
        else:
            for atom in atoms_of(part):
                if isinstance(atom, str) and bound.get(atom, 0) == 0:
                    found[atom] = True
            for inner_names, inner in inner_of(part):
                todo.extend([(None, inner_names, -1), (inner, (), 0), (None, inner_names, 1)])
    return list(found)

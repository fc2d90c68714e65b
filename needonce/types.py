"""Types, and what can be put in place of their variables."""

INT = ("con", "Int", ())
BOOL = ("con", "Bool", ())

LETTERS = "abcdefghijklmnopqrstuvwxyz"


def list_of(kind):
    """Returns the type of the lists of this type."""
    return ("con", "List", (kind,))


def function(arguments, result):
    """Returns the type of the functions from a tuple of types, one after the other, to the result."""
    kind = result
    for argument in reversed(arguments):
        kind = ("fun", argument, kind)
    return kind


def variables_of(kind):
    """Returns the names of the named variables, in the order of their first occurrence."""
    return _leaves(kind, "name")


def metas_of(kind):
    """Returns the numbers of the metas, in the order of their first occurrence."""
    return _leaves(kind, "meta")


def _leaves(kind, word):
    found = {}
    todo = [kind]
    while todo:
        part = todo.pop()
        if part[0] == word:
            found[part[1]] = True
        todo.extend(_parts(part)[::-1])
    return tuple(found)


def _parts(kind):
    """The types directly in a type, from left to right."""
    if kind[0] == "con":
        return kind[2]
    if kind[0] == "fun":
        return kind[1:]
    return ()


def replace_names(kind, types):
    """Returns the type with the types of the dict in place of named variables, all at once."""
    if kind[0] == "name":
        return types.get(kind[1], kind)
    if kind[0] == "fun":
        return ("fun", replace_names(kind[1], types), replace_names(kind[2], types))
    if kind[0] == "meta":
        return kind
    # A loop, and no comprehension: Python 3.11 would spend a second call on each level.
    arguments = []
    for argument in kind[2]:
        arguments.append(replace_names(argument, types))
    return ("con", kind[1], tuple(arguments))


def variable_name(index):
    """Returns the name of the variable at this index: a to z, then a1 to z1, and so on."""
    letter = LETTERS[index % len(LETTERS)]
    turn = index // len(LETTERS)
    return letter if turn == 0 else f"{letter}{turn}"


def instance_of(scheme, kind):
    """Tells whether the type is that of the scheme with types in place of its variables."""
    variables, _, pattern = scheme
    found = {}
    todo = [(pattern, kind)]
    while todo:
        place, part = todo.pop()
        if place[0] == "name" and place[1] in variables:
            if found.setdefault(place[1], part) != part:
                return False
        elif not _alike(place, part):
            return False
        else:
            todo.extend(list(zip(_parts(place), _parts(part))))
    return True


def _alike(one, other):
    """Tells whether two types are of one kind, with the same name and as many parts."""
    if one[0] != other[0] or len(_parts(one)) != len(_parts(other)):
        return False
    return one[0] == "fun" or one[1] == other[1]

"""Types, and what can be put in place of their variables."""

INT = ("con", "Int", ())
BOOL = ("con", "Bool", ())

LETTERS = "abcdefghijklmnopqrstuvwxyz"


def list_of(kind):
    """Returns the type of the lists of this type."""
    return ("con", "List", (kind,))


def scheme_of(context, kind):
    """Returns the scheme of a type, all of whose named variables are its own."""
    return (variables_of(kind), context, kind)


def function(arguments, result):
    """Returns the type of the functions from a tuple of types, one after the other, to the result."""
    kind = result
    for argument in reversed(arguments):
        kind = ("fun", argument, kind)
    return kind


def variables_of(kind):
    """Returns the names of the named variables, in the order of their first occurrence."""
    return _leaves(kind, "name")


def metas_of(kind):
    """Returns the numbers of the metas, in the order of their first occurrence."""
    return _leaves(kind, "meta")


def _leaves(kind, word):
    found = {}
    todo = [kind]
    while todo:
        part = todo.pop()
        if part[0] == word:
            found[part[1]] = True
        todo.extend(kind_parts(part)[::-1])
    return tuple(found)


def kind_parts(kind):
    """Returns the types directly in a type, from left to right."""
    if kind[0] == "con":
        return kind[2]
    if kind[0] == "fun":
        return kind[1:]
    return ()


def replace_names(kind, types):
    """Returns the type with the types of the dict in place of named variables, all at once."""
    return replace_leaves(kind, "name", types, False)


def replace_leaves(kind, word, types, again):
    """Returns the type with the types of the dict in place of variables of one form, the names or the metas.

    What comes in place of a variable is examined for variables itself if again is True. A list is worked off instead
    of calling itself again for each part, so that deep types are no matter.
    """
    done = []
    todo = [(kind, False)]
    while todo:
        part, ready = todo.pop()
        below = kind_parts(part)
        if ready:
            start = len(done) - len(below)
            done[start:] = [_with_kind_parts(part, done[start:])]
        elif below:
            todo.append((part, True))
            todo.extend([(inner, False) for inner in below[::-1]])
        elif part[0] != word or part[1] not in types:
            done.append(part)
        elif again:
            todo.append((types[part[1]], False))
        else:
            done.append(types[part[1]])
    return done[0]


def _with_kind_parts(kind, parts):
    """The type with other types directly in it."""
    if kind[0] == "fun":
        return ("fun", *parts)
    return ("con", kind[1], tuple(parts))


def variable_name(index):
    """Returns the name of the variable at this index: a to z, then a1 to z1, and so on."""
    letter = LETTERS[index % len(LETTERS)]
    turn = index // len(LETTERS)
    return letter if turn == 0 else f"{letter}{turn}"


def instance_of(scheme, kind):
    """Tells whether the type is that of the scheme with types in place of its variables."""
    variables, _, pattern = scheme
    found = {}
    todo = [(pattern, kind)]
    while todo:
        place, part = todo.pop()
        if place[0] == "name" and place[1] in variables:
            if found.setdefault(place[1], part) != part:
                return False
        elif not alike(place, part):
            return False
        else:
            todo.extend(list(zip(kind_parts(place), kind_parts(part))))
    return True


def alike(one, other):
    """Tells whether two types are of one kind, with the same name and as many parts."""
    if one[0] != other[0] or len(kind_parts(one)) != len(kind_parts(other)):
        return False
    return one[0] == "fun" or one[1] == other[1]

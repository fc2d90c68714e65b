"""What several parts of the program ask about trees."""


def definitions_of(declarations):
    """Returns the definitions among declarations."""
    return [declaration for declaration in declarations if declaration[0] == "define"]


def signatures_of(declarations):
    """Returns the signatures among declarations."""
    return [declaration for declaration in declarations if declaration[0] == "sign"]


def pattern_names(pattern):
    """Returns the tuple of the names that a pattern binds, from left to right."""
    if pattern[0] == "pcon":
        return pattern[2]
    if pattern[0] == "pname":
        return (pattern[1],)
    return ()


def plain_parts(tree):
    """Returns the expressions directly in an expression that binds nothing, from left to right."""
    if tree[0] == "app":
        return tree[1:]
    if tree[0] in ("op", "note"):
        return tree[2:]
    if tree[0] == "if":
        return tree[1:]
    if tree[0] == "list":
        return tree[1]
    return ()


def with_names(bound, names):
    """Returns a dict of the names that are bound already and of these."""
    inner = dict(bound)
    for name in names:
        inner[name] = True
    return inner

"""The translation of a program to core."""

from needonce.building import method_term
from needonce.infer import checked_program


def elaborate(declarations):
    """Returns the core program of a program."""
    _, terms = checked_program(declarations)
    definitions = []
    for declaration in declarations:
        definitions.extend(_definitions(declaration, terms))
    return (tuple(definitions), "main")


def _definitions(declaration, terms):
    """The pairs (name, term) of the global names of a declaration, in order."""
    if declaration[0] == "define":
        return [(declaration[1], terms[declaration[1]])]
    if declaration[0] == "class":
        methods = declaration[3]
        return [(name, method_term(index, len(methods))) for index, (name, _) in enumerate(methods)]
    if declaration[0] == "instance":
        name = f"{declaration[2]}.{declaration[3]}"
        return [(name, terms[name])]
    return []

"""Core terms and programs: what they are, their names and their sizes."""

from needonce.errors import BadCore, TwiceBound, UnboundName
from needonce.forms import has_form
from needonce.parts import names_of, parts_of, scopes_of


def is_term(thing):
    """Tells whether something is a core term."""
    todo = [thing]
    while todo:
        part = todo.pop()
        if not has_form(part):
            return False
        todo.extend(parts_of(part))
    return True


def free_names(term):
    """Returns the free names of a term, a list in ascending order."""
    found = {}
    bound = {}
    todo = [(term, (), 0)]
    while todo:
        part, names, change = todo.pop()
        if change != 0:
            for name in names:
                bound[name] = bound.get(name, 0) + change
        elif part[0] == "var":
            if bound.get(part[1], 0) == 0:
                found[part[1]] = True
        else:
            for inner, inner_names in zip(parts_of(part), scopes_of(part)):
                todo.extend([(None, inner_names, -1), (inner, (), 0), (None, inner_names, 1)])
    return sorted(found)


def size(term):
    """Returns the number of the terms in a term, itself included."""
    many = 0
    todo = [term]
    while todo:
        many += 1
        todo.extend(parts_of(todo.pop()))
    return many


def program_size(program):
    """Returns the sum of the sizes of the definitions."""
    definitions, _ = program
    return sum([size(term) for _, term in definitions])


def arity(term):
    """Returns the number of the lams at the beginning of a term."""
    many = 0
    while term[0] == "lam":
        many += 1
        term = term[2]
    return many


def check_program(program):
    """Raises the first error of a program that is not sound."""
    definitions, main = program
    names = [name for name, _ in definitions]
    known = {name: True for name in names}
    for name, term in definitions:
        if not is_term(term):
            raise BadCore(name)
        for free in free_names(term):
            if free not in known:
                raise UnboundName(free)
    seen = {}
    for name in names:
        if name in seen:
            raise TwiceBound(name)
        seen[name] = True
    if main not in known:
        raise UnboundName(main)


def bound_names(term):
    """Returns the list of all names that are bound in a term: its own ones first, then those of its parts."""
    found = []
    todo = [term]
    while todo:
        part = todo.pop()
        found.extend(names_of(part))
        todo.extend(parts_of(part)[::-1])
    return found


def is_apart(program):
    """Tells whether no name is bound twice in a program, its definitions included."""
    definitions, _ = program
    seen = {}
    for name, term in definitions:
        for bound in [name, *bound_names(term)]:
            if bound in seen:
                return False
            seen[bound] = True
    return True

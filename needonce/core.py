"""Core terms and programs: what they are, their names and their sizes."""

from needonce.errors import BadCore, TwiceBound, UnboundName
from needonce.parts import names_of, parts_of, scopes_of

SIGNS = ("+", "-", "*", "div", "mod", "==", "<", "<=")
COMPARISONS = ("==", "<", "<=")

LONGEST_NAME = 80
LARGEST_NUMBER = 1000000000000000
LARGEST_TAG = 1000
LARGEST_NOTE = 1000000000000

# A name has the characters from ! to ~ without the percent sign.
FIRST_CODE = 33
LAST_CODE = 126
PERCENT_CODE = 37


def is_term(thing):
    """Tells whether something is a core term."""
    todo = [thing]
    while todo:
        part = todo.pop()
        if not isinstance(part, tuple) or len(part) == 0 or not isinstance(part[0], str):
            return False
        check = FORMS.get(part[0])
        if check is None or not check(part):
            return False
        todo.extend(parts_of(part))
    return True


def free_names(term):
    """Returns the free names of a term, a list in ascending order."""
    found = {}
    bound = {}
    todo = [(term, (), 0)]
    while todo:
        part, names, change = todo.pop()
        if change != 0:
            for name in names:
                bound[name] = bound.get(name, 0) + change
        elif part[0] == "var":
            if bound.get(part[1], 0) == 0:
                found[part[1]] = True
        else:
            for inner, inner_names in zip(parts_of(part), scopes_of(part)):
                todo.extend([(None, inner_names, -1), (inner, (), 0), (None, inner_names, 1)])
    return sorted(found)


def size(term):
    """Returns the number of the terms in a term, itself included."""
    many = 0
    todo = [term]
    while todo:
        many += 1
        todo.extend(parts_of(todo.pop()))
    return many


def program_size(program):
    """Returns the sum of the sizes of the definitions."""
    definitions, _ = program
    return sum([size(term) for _, term in definitions])


def arity(term):
    """Returns the number of the lams at the beginning of a term."""
    many = 0
    while term[0] == "lam":
        many += 1
        term = term[2]
    return many


def check_program(program):
    """Raises the first error of a program that is not sound."""
    definitions, main = program
    names = [name for name, _ in definitions]
    known = {name: True for name in names}
    for name, term in definitions:
        if not is_term(term):
            raise BadCore(name)
        for free in free_names(term):
            if free not in known:
                raise UnboundName(free)
    seen = {}
    for name in names:
        if name in seen:
            raise TwiceBound(name)
        seen[name] = True
    if main not in known:
        raise UnboundName(main)


def bound_names(term):
    """Returns the list of all names that are bound in a term: its own ones first, then those of its parts."""
    found = []
    todo = [term]
    while todo:
        part = todo.pop()
        found.extend(names_of(part))
        todo.extend(parts_of(part)[::-1])
    return found


def is_apart(program):
    """Tells whether no name is bound twice in a program, its definitions included."""
    definitions, _ = program
    seen = {}
    for name, term in definitions:
        for bound in [name, *bound_names(term)]:
            if bound in seen:
                return False
            seen[bound] = True
    return True


def _is_name(thing):
    if not isinstance(thing, str) or not 1 <= len(thing) <= LONGEST_NAME:
        return False
    codes = [ord(letter) for letter in thing]
    return all([FIRST_CODE <= code <= LAST_CODE and code != PERCENT_CODE for code in codes])


def _are_names(things):
    """Whether this is a tuple of different names."""
    if not isinstance(things, tuple) or not all([_is_name(thing) for thing in things]):
        return False
    return _are_different(things)


def _are_different(things):
    return len({thing: True for thing in things}) == len(things)


def _is_number(thing, least, greatest):
    return isinstance(thing, int) and not isinstance(thing, bool) and least <= thing <= greatest


def _is_core_number(thing):
    return _is_number(thing, -LARGEST_NUMBER, LARGEST_NUMBER)


def _is_row(thing, many):
    """Whether this is a tuple of so many things."""
    return isinstance(thing, tuple) and len(thing) == many


def _are_rows(thing, many):
    """Whether this is a tuple of tuples of so many things."""
    return isinstance(thing, tuple) and all([_is_row(row, many) for row in thing])


def _is_num(term):
    return len(term) == 2 and _is_core_number(term[1])


def _is_var(term):
    return len(term) == 2 and _is_name(term[1])


def _is_app(term):
    return len(term) == 3


def _is_lam(term):
    return len(term) == 3 and _is_name(term[1])


def _is_let(term):
    if len(term) != 3 or not _are_rows(term[1], 2):
        return False
    return len(term[1]) > 0 and _are_names(tuple([name for name, _ in term[1]]))


def _is_seq(term):
    return len(term) == 4 and _is_name(term[1])


def _is_con(term):
    return len(term) == 3 and _is_number(term[1], 0, LARGEST_TAG) and isinstance(term[2], tuple)


def _is_default(thing):
    return thing is None or (_is_row(thing, 2) and _is_name(thing[0]))


def _is_case(term):
    if len(term) != 4 or not _are_rows(term[2], 3) or not _is_default(term[3]):
        return False
    return all([_is_number(tag, 0, LARGEST_TAG) and _are_names(names) for tag, names, _ in term[2]])


def _is_pick(term):
    if len(term) != 4 or not _are_rows(term[2], 2) or not _is_default(term[3]):
        return False
    numbers = [number for number, _ in term[2]]
    return all([_is_core_number(number) for number in numbers]) and _are_different(numbers)


def _is_prim(term):
    return len(term) == 4 and isinstance(term[1], str) and term[1] in SIGNS


def _is_note(term):
    return len(term) == 3 and _is_number(term[1], 0, LARGEST_NOTE)


FORMS = {"num": _is_num, "var": _is_var, "app": _is_app, "lam": _is_lam, "let": _is_let, "seq": _is_seq,
         "con": _is_con, "case": _is_case, "pick": _is_pick, "prim": _is_prim, "note": _is_note}

"""The normal form: what is delayed has a name, and functions, constructors and operators have atoms."""

from needonce.bodies import atoms_of, inner_of
from needonce.building import applied, lams
from needonce.forms import are_names, has_form, is_core_number, is_name, is_row
from needonce.lift import core_of_lifted
from needonce.new_names import NewNames
from needonce.parts import call_parts, rebuild, rebuild_pieces, unchanged, with_parts


def normal_form(lifted):
    """Returns the normal program of a lifted program."""
    functions, main = lifted
    making = Making(lifted)
    normal = [(name, params, rebuild_pieces(body, _make_body, making)) for name, params, body in functions]
    return (tuple(normal), main)


def is_normal(program):
    """Tells whether a pair is a normal program in which every name is a param, bound around it, or global."""
    if not is_row(program, 2) or not isinstance(program[0], tuple):
        return False
    functions, main = program
    if not all([_is_function(function) for function in functions]):
        return False
    counts = {name: len(params) for name, params, _ in functions}
    if len(counts) < len(functions) or not is_name(main) or counts.get(main, 1) > 0:
        return False
    return all([_is_body(body, params, counts) for _, params, body in functions])


def core_of(normal):
    """Returns the core program of a normal program: each param is a lam, and what is delayed is a term."""
    functions, main = normal
    definitions = []
    for name, params, body in functions:
        definitions.append((name, lams(params, rebuild(body, _core_shell, unchanged, None))))
    return (tuple(definitions), main)


class Making:
    """What is needed to bring the terms of a lifted program into normal form."""

    def __init__(self, lifted):
        self.counts = {name: len(params) for name, params, _ in lifted[0]}
        self.new_names = NewNames(core_of_lifted(lifted))

    def is_partial(self, term):
        """Tells whether a term is a call of a global function with more params than there are arguments."""
        function_part, arguments = call_parts(term)
        return function_part[0] == "var" and self.counts.get(function_part[1], 0) > len(arguments) > 0

    def delay(self, term, body):
        """Returns the delayed thing of a term with this body, and the pairs of names and delayed things that it needs
        beside it."""
        if term[0] != "con" and not self.is_partial(term):
            return ("later", body), ()
        pairs = ()
        if body[0] == "let":
            _, pairs, body = body
        return (body if term[0] == "con" else ("part", body[1], body[2])), pairs

    def name_arguments(self, arguments, bodies):
        """Returns the atoms of arguments, a tuple, and the list of the pairs of new names and delayed things."""
        atoms = []
        pairs = []
        for argument, body in zip(arguments, bodies):
            if body[0] == "atom":
                atoms.append(body[1])
            else:
                name = self.new_names.make()
                thing, more = self.delay(argument, body)
                atoms.append(name)
                pairs.extend([(name, thing), *more])
        return tuple(atoms), pairs


def _make_body(making, term, bodies):
    """The body of a term, of which the parts have become these bodies."""
    make = MAKERS.get(term[0])
    return with_parts(term, bodies) if make is None else make(making, term, bodies)


def _make_atom(making, term, bodies):
    return ("atom", term[1])


def _make_call(making, term, bodies):
    function_part, arguments = call_parts(term)
    atoms, pairs = making.name_arguments(arguments, bodies[1:])
    if function_part[0] == "var":
        return _within_let(pairs, ("call", function_part[1], atoms))
    name = making.new_names.make()
    return _within_let(pairs, ("seq", name, bodies[0], ("call", name, atoms)))


def _make_con(making, term, bodies):
    atoms, pairs = making.name_arguments(term[2], bodies)
    return _within_let(pairs, ("con", term[1], atoms))


def _make_prim(making, term, bodies):
    """All but numbers are evaluated first: the atoms of a prim are numbers and names of heads."""
    seqs = []
    atoms = []
    for argument, body in zip(term[2:], bodies):
        if argument[0] == "num":
            atoms.append(argument[1])
        else:
            name = making.new_names.make()
            atoms.append(name)
            seqs.append((name, body))
    made = ("prim", term[1], *atoms)
    for name, body in seqs[::-1]:
        made = ("seq", name, body, made)
    return made


def _make_let(making, term, bodies):
    pairs = []
    for pair, body in zip(term[1], bodies):
        thing, more = making.delay(pair[1], body)
        pairs.extend([(pair[0], thing), *more])
    return ("let", tuple(pairs), bodies[-1])


MAKERS = {"num": _make_atom, "var": _make_atom, "app": _make_call, "con": _make_con, "prim": _make_prim,
          "let": _make_let}


def _within_let(pairs, body):
    return ("let", tuple(pairs), body) if pairs else body


def _is_function(function):
    return is_row(function, 3) and is_name(function[0]) and are_names(function[1])


def _is_body(body, params, counts):
    """Whether this is a body with these params among functions with so many params."""
    bound = {name: 1 for name in params}
    todo = [("body", body, (), 0)]
    while todo:
        place, thing, names, change = todo.pop()
        if change != 0:
            for name in names:
                bound[name] = bound.get(name, 0) + change
        elif not _fits(place, thing, counts):
            return False
        elif not all([_is_atom(atom, bound, counts) for atom in atoms_of(thing)]):
            return False
        else:
            for inner_place, (inner_names, inner) in zip(_places_in(thing), inner_of(thing)):
                todo.extend([("", None, inner_names, -1), (inner_place, inner, (), 0), ("", None, inner_names, 1)])
    return True


def _places_in(thing):
    """What stands in a body or a delayed thing."""
    many = len(inner_of(thing))
    return ["delayed"] * (many - 1) + ["body"] if thing[0] == "let" else ["body"] * many


def _fits(place, thing, counts):
    """Whether this has the form of what stands in such a place."""
    if not isinstance(thing, tuple) or len(thing) == 0 or thing[0] not in PLACES[place]:
        return False
    if thing[0] == "part":
        return _is_call(thing) and len(thing[2]) < counts.get(thing[1], 0)
    if thing[0] == "call":
        return _is_call(thing)
    return len(thing) == 2 if thing[0] in ("atom", "later") else has_form(thing)


def _is_call(thing):
    return len(thing) == 3 and is_name(thing[1]) and isinstance(thing[2], tuple) and len(thing[2]) > 0


def _is_atom(atom, bound, counts):
    if isinstance(atom, str):
        return bound.get(atom, 0) > 0 or atom in counts
    return is_core_number(atom)


PLACES = {"body": ("atom", "call", "con", "prim", "let", "seq", "case", "pick", "note"),
          "delayed": ("later", "con", "part")}


def _core_shell(held, thing):
    """The term of a body or a delayed thing, in which what stands there is still to become a term."""
    while thing[0] == "later":
        thing = thing[1]
    word = thing[0]
    if word == "atom":
        return _atom_term(thing[1])
    if word in ("call", "part"):
        return applied(("var", thing[1]), [_atom_term(atom) for atom in thing[2]])
    if word == "con":
        return ("con", thing[1], tuple([_atom_term(atom) for atom in thing[2]]))
    if word == "prim":
        return ("prim", thing[1], _atom_term(thing[2]), _atom_term(thing[3]))
    return thing


def _atom_term(atom):
    return ("var", atom) if isinstance(atom, str) else ("num", atom)

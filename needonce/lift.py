"""Lifting: each lam becomes a function of its own, of the names that it takes in and of its own names."""

from needonce.building import applied, lams
from needonce.core import arity, free_names
from needonce.errors import MainIsFunction
from needonce.new_names import NewNames
from needonce.parts import lam_parts, parts_of, rebuild, unchanged, with_parts


def lift(program):
    """Returns the lifted program of a sound and apart program."""
    definitions, main = program
    if arity(dict(definitions)[main]) > 0:
        raise MainIsFunction()
    lifting = Lifting(program)
    functions = []
    for name, term in definitions:
        params, body = lam_parts(rebuild(term, unchanged, _lift_parts, lifting))
        functions.append((name, tuple(params), body))
    return (tuple(functions + lifting.functions), main)


def core_of_lifted(lifted):
    """Returns the core program of a lifted program: each param is a lam."""
    functions, main = lifted
    return (tuple([(name, lams(params, body)) for name, params, body in functions]), main)


class Lifting:
    """The new functions of a program that is being lifted."""

    def __init__(self, program):
        self.new_names = NewNames(program)
        self.global_names = {name: True for name, _ in program[0]}
        self.functions = []

    def lift_lam(self, term):
        """Makes a function of a lam with no other lams in it but those that follow it at once. Returns the call."""
        params, body = lam_parts(term)
        captured = [name for name in free_names(term) if name not in self.global_names]
        name = self.new_names.make()
        self.global_names[name] = True
        self.functions.append((name, (*captured, *params), body))
        return applied(("var", name), [("var", param) for param in captured])


def _lift_parts(lifting, term):
    """The term of which the parts are lifted. A lam that follows another one is lifted with it, one that begins a
    definition not at all."""
    if term[0] == "lam":
        return term
    lifted = [lifting.lift_lam(part) if part[0] == "lam" else part for part in parts_of(term)]
    return with_parts(term, lifted)

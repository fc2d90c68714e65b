"""Leads, and tables of the parameters that functions evaluate first."""

from needonce.core import arity
from needonce.leads import Known, find_lead
from needonce.parts import lam_parts


def lead(program, table, term):
    """Returns the names that a term evaluates first, and whether it does nothing else at all."""
    return find_lead(Known(_arities(program), table), term)


def holds_table(program, table):
    """Tells whether a table holds for a program."""
    definitions, _ = program
    terms = dict(definitions)
    arities = _arities(program)
    seen = {}
    for at, (name, indexes) in enumerate(table):
        if name not in terms or name in seen or not _are_indexes(indexes, arities[name]):
            return False
        seen[name] = True
        parameters, body = lam_parts(terms[name])
        wanted = tuple([parameters[index] for index in indexes])
        names, _ = find_lead(Known(arities, table[:at]), body)
        if names[:len(wanted)] != wanted:
            return False
    return True


def _are_indexes(indexes, many):
    """Whether there are any, all different, and each that of one of so many parameters."""
    different = {index: True for index in indexes}
    return 0 < len(indexes) == len(different) and all([0 <= index < many for index in indexes])


def make_table(program):
    """Returns the table that is found by going through the definitions again and again."""
    definitions, _ = program
    arities = _arities(program)
    table = ()
    found = {}
    before = -1
    while before < len(table):
        before = len(table)
        for name, term in definitions:
            if name not in found and arities[name] > 0:
                parameters, body = lam_parts(term)
                names, _ = find_lead(Known(arities, table), body)
                if names:
                    found[name] = True
                    table += ((name, tuple([parameters.index(parameter) for parameter in names])),)
    return table


def _arities(program):
    definitions, _ = program
    return {name: arity(term) for name, term in definitions}

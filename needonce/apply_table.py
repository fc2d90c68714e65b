"""Making a program strict: what is needed anyway is evaluated first."""

from needonce.building import applied
from needonce.core import arity
from needonce.leads import Known, find_lead, is_plain_let
from needonce.new_names import NewNames
from needonce.parts import call_parts, rebuild_pieces, with_parts


def apply_table(program, table):
    """Returns the program made strict by a table that holds."""
    definitions, main = program
    change = Change(program, table)
    return (tuple([(name, rebuild_pieces(term, _put_together, change)) for name, term in definitions]), main)


class Change:
    """What is needed to make the terms of a program strict."""

    def __init__(self, program, table):
        self.table = dict(table)
        self.arities = {name: arity(term) for name, term in program[0]}
        self.new_names = NewNames(program)

    def first_indexes(self, function_part, arguments):
        """Returns the indexes of the arguments that a call evaluates first; none if it is not a full one."""
        if function_part[0] != "var" or function_part[1] not in self.table:
            return ()
        name = function_part[1]
        return self.table[name] if len(arguments) >= self.arities[name] else ()


def _put_together(change, term, pieces):
    """The term made strict, of which the pieces have been made strict."""
    if term[0] == "app":
        return _strict_call(change, term, pieces)
    if term[0] == "let" and _is_needed_first(change, term):
        return ("seq", term[1][0][0], pieces[0], pieces[1])
    return with_parts(term, pieces)


def _is_needed_first(change, term):
    """Whether the body of a let evaluates its only name first."""
    if not is_plain_let(term):
        return False
    names, _ = find_lead(Known(change.arities, change.table), term[2])
    return names[:1] == (term[1][0][0],)


def _strict_call(change, term, pieces):
    function_part, arguments = call_parts(term)
    new_arguments = pieces[1:]
    seqs = []
    for index in change.first_indexes(function_part, arguments):
        if arguments[index][0] not in ("num", "lam", "con"):
            name = change.new_names.make()
            seqs.append((name, new_arguments[index]))
            new_arguments[index] = ("var", name)
    strict_term = applied(pieces[0], new_arguments)
    for name, argument in seqs[::-1]:
        strict_term = ("seq", name, argument, strict_term)
    return strict_term

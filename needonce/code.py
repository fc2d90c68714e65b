"""Compiling: from the normal form to code, in which names are replaced by places.

A scope is a pair: a dict from the names in scope to their slots, and the depth, the number of slots in use.
"""

from needonce.bodies import atoms_of, free_atoms, inner_of
from needonce.errors import BadArity, Unknown


def compile_program(functions, main):
    """Returns the code program of the functions of a normal form."""
    indexes = {}
    counts = {}
    for index, (name, params, _) in enumerate(functions):
        indexes[name] = index
        counts[name] = len(params)
    code = [(len(params), _body_code(body, params, indexes)) for _, params, body in functions]
    if main not in indexes:
        raise Unknown(main)
    if counts[main] > 0:
        raise BadArity(main)
    return (tuple(code), indexes[main])


def _body_code(body, params, indexes):
    """The code of a body with these params. It is made from left to right, so that the first unknown name is found."""
    done = []
    todo = [(body, _beginning(params), None)]
    while todo:
        thing, scope, operands = todo.pop()
        inner = inner_of(thing)
        if operands is None:
            operands, inner_scope = _operands(thing, scope, indexes)
            todo.append((thing, scope, operands))
            todo.extend([(part, _extended(inner_scope, names), None) for names, part in inner[::-1]])
        else:
            start = len(done) - len(inner)
            done[start:] = [_put_together(thing, operands, done[start:])]
    return done[0]


def _beginning(names):
    """The scope at the beginning of a frame with these names."""
    return _extended(({}, 0), names)


def _extended(scope, names):
    """The scope in which these names have the next slots."""
    slots, depth = scope
    inner = dict(slots)
    for index, name in enumerate(names):
        inner[name] = depth + index
    return (inner, depth + len(names))


def _operands(thing, scope, indexes):
    """The operands of a body or a delayed thing, and the scope of what stands in it but for the names that it binds."""
    slots, _ = scope
    if thing[0] == "later":
        needed = {slots[name]: name for name in free_atoms(thing) if name in slots}
        order = sorted(needed)
        return [("slot", slot) for slot in order], _beginning([needed[slot] for slot in order])
    function = [_operand(thing[1], {}, indexes)] if thing[0] == "part" else []
    return function + [_operand(atom, slots, indexes) for atom in atoms_of(thing)], scope


def _operand(atom, slots, indexes):
    if not isinstance(atom, str):
        return ("number", atom)
    if atom in slots:
        return ("slot", slots[atom])
    if atom not in indexes:
        raise Unknown(atom)
    return ("global", indexes[atom])


def _put_together(thing, operands, inner):
    """The code of a body or a delayed thing: of its operands, and the code of what stands in it."""
    put_together = MAKERS[thing[0]]
    return put_together(thing, tuple(operands), inner)


def _make_give(thing, operands, inner):
    return ("give", operands[0])


def _make_call(thing, operands, inner):
    return ("call", operands[0], operands[1:])


def _make_con(thing, operands, inner):
    return ("con", thing[1], operands)


def _make_prim(thing, operands, inner):
    return ("prim", thing[1], operands[0], operands[1])


def _make_let(thing, operands, inner):
    return ("let", tuple(inner[:-1]), inner[-1])


def _make_seq(thing, operands, inner):
    return ("seq", inner[0], inner[1])


def _make_case(thing, operands, inner):
    alternatives = [(tag, len(names), body) for (tag, names, _), body in zip(thing[2], inner[1:])]
    return ("case", inner[0], tuple(alternatives), None if thing[3] is None else inner[-1])


def _make_pick(thing, operands, inner):
    alternatives = [(number, body) for (number, _), body in zip(thing[2], inner[1:])]
    return ("pick", inner[0], tuple(alternatives), None if thing[3] is None else inner[-1])


def _make_note(thing, operands, inner):
    return ("note", thing[1], inner[0])


def _make_later(thing, operands, inner):
    return ("later", operands, inner[0])


def _make_part(thing, operands, inner):
    _, index = operands[0]
    return ("part", index, operands[1:])


MAKERS = {"atom": _make_give, "call": _make_call, "con": _make_con, "prim": _make_prim, "let": _make_let,
          "seq": _make_seq, "case": _make_case, "pick": _make_pick, "note": _make_note, "later": _make_later,
          "part": _make_part}

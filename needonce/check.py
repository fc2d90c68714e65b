"""Checking code: whether a value is a code program."""

from needonce.errors import BadCode
from needonce.forms import are_rows, is_integer, is_row, is_sign


def check_code(program):
    """Raises BadCode if a value is no code program."""
    _require(is_row(program, 2) and are_rows(program[0], 2))
    functions, main = program
    for arity, body in functions:
        _require(_is_count(arity))
        _check_body(body, arity, len(functions))
    _require(_is_below(main, len(functions)))
    _require(functions[main][0] == 0)


def _require(holds):
    if not holds:
        raise BadCode()


def _is_count(thing):
    return is_integer(thing) and thing >= 0


def _is_below(thing, limit):
    return _is_count(thing) and thing < limit


def _check_body(body, depth, many):
    """Examines a body at a depth, among so many functions. What stands in it is put on a list, each with its depth."""
    todo = [("body", body, depth)]
    while todo:
        place, thing, depth = todo.pop()
        _require(isinstance(thing, tuple) and len(thing) > 0 and isinstance(thing[0], str))
        look = LOOKS.get((place, thing[0]))
        _require(look is not None)
        todo.extend(look(thing, depth, many))


def _look_at_give(body, depth, many):
    _require(len(body) == 2)
    _require_operand(body[1], depth, many)
    return []


def _look_at_call(body, depth, many):
    _require(len(body) == 3)
    _require_operand(body[1], depth, many)
    _require_operands(body[2], depth, many)
    _require(len(body[2]) > 0)
    return []


def _look_at_con(thing, depth, many):
    """A body or a delayed member."""
    _require(len(thing) == 3 and _is_count(thing[1]))
    _require_operands(thing[2], depth, many)
    return []


def _look_at_prim(body, depth, many):
    _require(len(body) == 4 and is_sign(body[1]))
    _require_operands(body[2:], depth, many)
    return []


def _look_at_let(body, depth, many):
    _require(len(body) == 3 and isinstance(body[1], tuple) and len(body[1]) > 0)
    inner = depth + len(body[1])
    return [*[("member", member, inner) for member in body[1]], ("body", body[2], inner)]


def _look_at_seq(body, depth, many):
    _require(len(body) == 3)
    return [("body", body[1], depth), ("body", body[2], depth + 1)]


def _look_at_case(body, depth, many):
    _require(len(body) == 4 and are_rows(body[2], 3))
    inner = [("body", body[1], depth)]
    for tag, count, alternative in body[2]:
        _require(_is_count(tag) and _is_count(count))
        inner.append(("body", alternative, depth + count))
    return inner + _default(body[3], depth)


def _look_at_pick(body, depth, many):
    _require(len(body) == 4 and are_rows(body[2], 2))
    inner = [("body", body[1], depth)]
    for number, alternative in body[2]:
        _require(is_integer(number))
        inner.append(("body", alternative, depth))
    return inner + _default(body[3], depth)


def _look_at_note(body, depth, many):
    _require(len(body) == 3 and is_integer(body[1]))
    return [("body", body[2], depth)]


def _look_at_later(member, depth, many):
    _require(len(member) == 3)
    _require_operands(member[1], depth, many)
    _require(all([operand[0] == "slot" for operand in member[1]]))
    return [("body", member[2], len(member[1]))]


def _look_at_part(member, depth, many):
    _require(len(member) == 3 and _is_below(member[1], many))
    _require_operands(member[2], depth, many)
    return []


LOOKS = {("body", "give"): _look_at_give, ("body", "call"): _look_at_call, ("body", "con"): _look_at_con,
         ("body", "prim"): _look_at_prim, ("body", "let"): _look_at_let, ("body", "seq"): _look_at_seq,
         ("body", "case"): _look_at_case, ("body", "pick"): _look_at_pick, ("body", "note"): _look_at_note,
         ("member", "later"): _look_at_later, ("member", "con"): _look_at_con, ("member", "part"): _look_at_part}


def _default(body, depth):
    return [] if body is None else [("body", body, depth + 1)]


def _require_operands(operands, depth, many):
    _require(isinstance(operands, tuple))
    for operand in operands:
        _require_operand(operand, depth, many)


def _require_operand(operand, depth, many):
    """The operand stands at a depth, among so many functions."""
    _require(is_row(operand, 2))
    word, value = operand
    if word == "slot":
        _require(_is_below(value, depth))
    elif word == "global":
        _require(_is_below(value, many))
    else:
        _require(word == "number" and is_integer(value))

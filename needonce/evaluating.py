"""Evaluating a body in a frame of words."""

from needonce.heap import size_of


def word_of(operand, words):
    """Returns the word of an operand in a frame of words."""
    place, value = operand
    if place == "slot":
        return words[value]
    return 2 * value if place == "global" else 2 * value + 1


def size_to_evaluate(body):
    """Returns the size that the step needs that evaluates a body."""
    if body[0] == "con":
        return size_of(body)
    if body[0] == "let":
        return sum([_size_of_member(member) for member in body[1]])
    return 0


def evaluate(machine, body, words):
    """Evaluates a body in a frame of words. Returns what the machine does next."""
    begin = EVALUATIONS[body[0]]
    return begin(machine, body, words)


def _evaluate_give(machine, body, words):
    return ("enter", word_of(body[1], words))


def _evaluate_call(machine, body, words):
    machine.stack.append(("apply", _words_of(body[2], words)))
    return ("enter", word_of(body[1], words))


def _evaluate_con(machine, body, words):
    return ("value", 2 * machine.heap.make(("con", body[1], _words_of(body[2], words))))


def _evaluate_prim(machine, body, words):
    _, sign, one, other = body
    machine.stack.append(("right", sign, other, words))
    return ("enter", word_of(one, words))


def _evaluate_let(machine, body, words):
    _, members, inner_body = body
    first = machine.heap.next_address
    inner_words = (*words, *[2 * (first + index) for index in range(len(members))])
    for member in members:
        machine.heap.make(_member_cell(machine, member, inner_words))
    return ("eval", inner_body, inner_words)


def _evaluate_seq(machine, body, words):
    machine.stack.append(("seq", body[2], words))
    return ("eval", body[1], words)


def _evaluate_choice(machine, body, words):
    """Evaluates a case or a pick."""
    word, first, alternatives, default = body
    machine.stack.append((word, alternatives, default, words))
    return ("eval", first, words)


def _evaluate_note(machine, body, words):
    machine.events.append(("note", body[1]))
    return ("eval", body[2], words)


EVALUATIONS = {"give": _evaluate_give, "call": _evaluate_call, "con": _evaluate_con, "prim": _evaluate_prim,
               "let": _evaluate_let, "seq": _evaluate_seq, "case": _evaluate_choice, "pick": _evaluate_choice,
               "note": _evaluate_note}


def _words_of(operands, words):
    return tuple([word_of(operand, words) for operand in operands])


def _size_of_member(member):
    """The size of the cell of a delayed member, which has a word for each operand."""
    if member[0] == "later":
        return size_of(("later", member[2], member[1], 0))
    return size_of(member)


def _member_cell(machine, member, words):
    """The cell of a delayed member."""
    if member[0] != "later":
        return (member[0], member[1], _words_of(member[2], words))
    _, operands, body = member
    serial = machine.next_serial
    machine.next_serial += 1
    return ("later", body, _words_of(operands, words), serial)

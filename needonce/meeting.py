"""A value meets the frame on top of the stack."""

from needonce.evaluating import word_of
from needonce.forms import COMPARISONS
from needonce.heap import size_of
from needonce.meaning import prim_result

STUCK = ("stuck",)


def size_to_meet(machine, frame, word):
    """Returns the size that the step needs in which the value meets the frame."""
    cell = _cell_of(machine, word)
    if frame[0] == "apply" and cell[0] == "part" and _is_partial(machine, cell, frame):
        return size_of(cell) + len(frame[1])
    if frame[0] == "prim" and cell[0] == "number" and frame[1] in COMPARISONS:
        return 1
    return 0


def meet(machine, frame, word):
    """The value of this word meets a frame, which has been popped. Returns what the machine does next."""
    go_on = MEETINGS[frame[0]]
    return go_on(machine, frame, word)


def _cell_of(machine, word):
    """What a value is: its cell, or ("number", n)."""
    return ("number", word // 2) if word % 2 != 0 else machine.heap.cell(word // 2)


def _is_partial(machine, cell, frame):
    """Whether a function has too few words with those of its part cell and its apply frame."""
    arity, _ = machine.functions[cell[1]]
    return len(cell[2]) + len(frame[1]) < arity


def _fault(machine, text):
    machine.events.append(("fault", text))
    return ("fault", text)


def _meet_show(machine, frame, word):
    cell = _cell_of(machine, word)
    if cell[0] != "con":
        return STUCK
    if cell[1] == 0:
        machine.events.append(("end",))
        return ("end",)
    if cell[1] != 1 or len(cell[2]) != 2:
        return STUCK
    first, rest = cell[2]
    machine.stack.append(("head", rest))
    return ("enter", first)


def _meet_head(machine, frame, word):
    cell = _cell_of(machine, word)
    if cell[0] != "number":
        return STUCK
    machine.events.append(("show", cell[1]))
    machine.stack.append(("show",))
    return ("enter", frame[1])


def _meet_update(machine, frame, word):
    machine.heap.put(frame[1], ("on", word))
    return ("value", word)


def _meet_apply(machine, frame, word):
    cell = _cell_of(machine, word)
    if cell[0] != "part":
        return STUCK
    _, index, words = cell
    words += frame[1]
    if _is_partial(machine, cell, frame):
        return ("value", 2 * machine.heap.make(("part", index, words)))
    arity, body = machine.functions[index]
    if len(words) > arity:
        machine.stack.append(("apply", words[arity:]))
    return ("eval", body, words[:arity])


def _meet_case(machine, frame, word):
    _, alternatives, default, words = frame
    cell = _cell_of(machine, word)
    if cell[0] != "con":
        return STUCK
    for tag, count, body in alternatives:
        if tag == cell[1] and count == len(cell[2]):
            return ("eval", body, words + cell[2])
    return _choose_default(machine, default, words, word)


def _meet_pick(machine, frame, word):
    _, alternatives, default, words = frame
    cell = _cell_of(machine, word)
    if cell[0] != "number":
        return STUCK
    for number, body in alternatives:
        if number == cell[1]:
            return ("eval", body, words)
    return _choose_default(machine, default, words, word)


def _choose_default(machine, default, words, word):
    if default is None:
        return _fault(machine, "no match")
    return ("eval", default, (*words, word))


def _meet_seq(machine, frame, word):
    _, body, words = frame
    return ("eval", body, (*words, word))


def _meet_right(machine, frame, word):
    _, sign, operand, words = frame
    cell = _cell_of(machine, word)
    if cell[0] != "number":
        return STUCK
    machine.stack.append(("prim", sign, cell[1]))
    return ("enter", word_of(operand, words))


def _meet_prim(machine, frame, word):
    _, sign, number = frame
    cell = _cell_of(machine, word)
    if cell[0] != "number":
        return STUCK
    result = prim_result(sign, number, cell[1])
    if result[0] == "fault":
        return _fault(machine, result[1])
    if result[0] == "num":
        return ("value", 2 * result[1] + 1)
    return ("value", 2 * machine.heap.make(result))


MEETINGS = {"show": _meet_show, "head": _meet_head, "update": _meet_update, "apply": _meet_apply, "case": _meet_case,
            "pick": _meet_pick, "seq": _meet_seq, "right": _meet_right, "prim": _meet_prim}

"""Running: from a text to a report of what its program shows."""

from needonce.apply_table import apply_table
from needonce.checker import check
from needonce.code import compile_program
from needonce.image import read_image, write_image
from needonce.lift import lift
from needonce.machine import Machine
from needonce.normal import normal_form
from needonce.simplify import simplify
from needonce.strict import make_table


def run_code(program, room, schedule, steps):
    """Runs a code program for at most so many steps. Returns the report."""
    machine = Machine(program, room)
    scheduled = {number: True for number in schedule}
    for number in range(steps):
        if machine.stopped:
            break
        if number in scheduled:
            machine.collect()
        machine.step()
    state = machine.now if machine.stopped else ("more",)
    return (tuple(machine.events), state, len(machine.entered), machine.collections)


def pages(events):
    """Returns the list of what was shown, with what was noted up to there."""
    found = []
    noted = {}
    notes = ()
    for event in events:
        if event[0] == "show":
            found.append((event[1], notes))
        elif event[0] == "note" and event[1] not in noted:
            noted[event[1]] = True
            notes = tuple(sorted(noted))
    last = events[-1] if events else ("none",)
    if last[0] in ("end", "fault"):
        found.append((last[-1], notes))
    return found


def compile_text(text, *, prelude=True):
    """Returns the code program of a text."""
    program = simplify(check(text, prelude=prelude))
    functions, main = normal_form(lift(apply_table(program, make_table(program))))
    return compile_program(functions, main)


def run_text(text, room, schedule, steps, *, prelude=True):
    """Runs the program of a text for at most so many steps. Returns the report."""
    program = read_image(write_image(compile_text(text, prelude=prelude)))
    return run_code(program, room, schedule, steps)

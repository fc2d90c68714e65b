"""Other readings of point 8.7 and of part 9: images by recursion, and a machine that is one function of a state."""

SIGNS = ("+", "-", "*", "div", "mod", "==", "<", "<=")
OPERANDS = ("slot", "global", "number")
BODIES = ("give", "call", "con", "prim", "let", "seq", "case", "pick", "note")
MEMBERS = ("later", "con", "part")
LIMIT = 10 ** 15
STOPPED = ("end", "fault", "loop", "full", "stuck")


# Images.

def slow_image(program):
    functions, main = program
    return [len(functions), *[each for arity, body in functions for each in (arity, *image_of(body))], main]


def operand_image(operand):
    return [OPERANDS.index(operand[0]), operand[1]]


def operands_image(operands):
    return [len(operands), *[each for operand in operands for each in operand_image(operand)]]


def image_of(body):
    kind = body[0]
    row = [BODIES.index(kind)]
    if kind == "give":
        return row + operand_image(body[1])
    if kind == "call":
        return row + operand_image(body[1]) + operands_image(body[2])
    if kind == "con":
        return row + [body[1]] + operands_image(body[2])
    if kind == "prim":
        return row + [SIGNS.index(body[1])] + operand_image(body[2]) + operand_image(body[3])
    if kind == "let":
        return row + [len(body[1])] + [each for member in body[1] for each in member_image(member)] + image_of(body[2])
    if kind == "seq":
        return row + image_of(body[1]) + image_of(body[2])
    if kind == "note":
        return row + [body[1]] + image_of(body[2])
    row += image_of(body[1]) + [len(body[2])]
    for alternative in body[2]:
        row += [*alternative[:-1], *image_of(alternative[-1])]
    return row + ([0] if body[3] is None else [1, *image_of(body[3])])


def member_image(member):
    if member[0] == "later":
        return [0] + operands_image(member[1]) + image_of(member[2])
    return [MEMBERS.index(member[0]), member[1]] + operands_image(member[2])


class Bad(Exception):
    pass


class Row:
    """A row of numbers that is read from left to right."""

    def __init__(self, numbers):
        self.numbers = list(numbers)

    def any(self):
        if not self.numbers:
            raise Bad
        return self.numbers.pop(0)

    def natural(self, limit=None):
        number = self.any()
        if number < 0 or (limit is not None and number >= limit):
            raise Bad
        return number

    def many(self, read, least=0):
        number = self.natural()
        if number < least:
            raise Bad
        return tuple(read() for _ in range(number))

    def operand(self):
        kind = OPERANDS[self.natural(3)]
        return (kind, self.any() if kind == "number" else self.natural())

    def slot(self):
        operand = self.operand()
        if operand[0] != "slot":
            raise Bad
        return operand

    def body(self):
        kind = BODIES[self.natural(9)]
        if kind == "give":
            return (kind, self.operand())
        if kind == "call":
            return (kind, self.operand(), self.many(self.operand, 1))
        if kind == "con":
            return (kind, self.natural(), self.many(self.operand))
        if kind == "prim":
            return (kind, SIGNS[self.natural(8)], self.operand(), self.operand())
        if kind == "let":
            return (kind, self.many(self.member, 1), self.body())
        if kind == "seq":
            return (kind, self.body(), self.body())
        if kind == "note":
            return (kind, self.any(), self.body())
        if kind == "case":
            alternative = self.alternative
        else:
            alternative = self.choice
        return (kind, self.body(), self.many(alternative), self.body() if self.natural(2) else None)

    def alternative(self):
        return (self.natural(), self.natural(), self.body())

    def choice(self):
        return (self.any(), self.body())

    def member(self):
        kind = MEMBERS[self.natural(3)]
        if kind == "later":
            return (kind, self.many(self.slot), self.body())
        return (kind, self.natural(), self.many(self.operand))

    def function(self):
        return (self.natural(), self.body())


def slow_read(numbers):
    row = Row(numbers)
    program = (row.many(row.function), row.natural())
    if row.numbers:
        raise Bad
    return program


# The machine. A state is a dict; a step makes a new one out of copies.

def slow_size(cell):
    words = {"con": 2, "part": 2, "later": 2}.get(cell[0])
    size = 1 + (len(cell[words]) if words else 0)
    return size if cell[0] in ("con", "part") else max(size, 2)


def begin(program, room):
    functions, main = program
    cells = {}
    for index, (arity, body) in enumerate(functions):
        cells[index] = ("part", index, ()) if arity else ("later", body, (), index)
    return {"functions": functions, "room": room, "cells": cells, "next": len(functions), "serial": len(functions),
            "stack": [("show",)], "now": ("enter", 2 * main), "events": [], "entered": [], "collections": 0}


def used(state):
    return sum(map(slow_size, state["cells"].values()))


class Full(Exception):
    pass


def slow_step(state):
    """Does a step. The state stays as it is; the new one is returned."""
    if state["now"][0] in STOPPED:
        return state
    work = {**state, "cells": dict(state["cells"]), "stack": list(state["stack"]), "events": list(state["events"]),
            "entered": list(state["entered"])}
    try:
        work["now"] = do(work)
        return work
    except Full:
        if not state.get("collected"):
            return {**slow_step({**slow_collect(state), "collected": True}), "collected": False}
        return {**state, "now": ("full",)}


def make(work, cells):
    """Makes cells and returns their words."""
    if used(work) + sum(map(slow_size, cells)) > work["room"]:
        raise Full
    words = []
    for cell in cells:
        work["cells"][work["next"]] = cell
        words.append(2 * work["next"])
        work["next"] += 1
    return tuple(words)


def do(work):
    now = work["now"]
    if now[0] == "enter":
        return do_enter(work, now[1])
    if now[0] == "eval":
        return do_eval(work, now[1], now[2])
    return do_value(work, now[1])


def do_enter(work, word):
    cell = None if word % 2 else work["cells"][word // 2]
    if cell is None or cell[0] in ("con", "part"):
        return ("value", word)
    if cell[0] == "on":
        return ("enter", cell[1])
    if cell[0] == "hole":
        return ("loop",)
    work["cells"][word // 2] = ("hole",)
    work["entered"].append(cell[3])
    work["stack"].append(("update", word // 2))
    return ("eval", cell[1], cell[2])


def operand_word(operand, frame):
    return {"slot": lambda: frame[operand[1]], "global": lambda: operand[1] * 2,
            "number": lambda: operand[1] * 2 + 1}[operand[0]]()


def do_eval(work, body, frame):
    def words(operands, inner=frame):
        return tuple(operand_word(operand, inner) for operand in operands)

    kind = body[0]
    if kind == "give":
        return ("enter", *words(body[1:]))
    if kind == "call":
        work["stack"].append(("apply", words(body[2])))
        return ("enter", *words(body[1:2]))
    if kind == "con":
        return ("value", *make(work, [("con", body[1], words(body[2]))]))
    if kind == "prim":
        work["stack"].append(("right", body[1], body[3], frame))
        return ("enter", *words(body[2:3]))
    if kind == "let":
        inner = frame + tuple(2 * (work["next"] + index) for index in range(len(body[1])))
        cells = []
        for member in body[1]:
            if member[0] == "later":
                cells.append(("later", member[2], words(member[1], inner), work["serial"]))
                work["serial"] += 1
            else:
                cells.append((member[0], member[1], words(member[2], inner)))
        assert frame + make(work, cells) == inner
        return ("eval", body[2], inner)
    if kind == "note":
        work["events"].append(("note", body[1]))
        return ("eval", body[2], frame)
    work["stack"].append((kind, *body[2:], frame))
    return ("eval", body[1], frame)


def do_value(work, word):
    stack, events = work["stack"], work["events"]
    number = word // 2 if word % 2 else None
    cell = ("number",) if word % 2 else work["cells"][word // 2]
    frame = stack.pop()
    kind = frame[0]

    def fault(text):
        events.append(("fault", text))
        return ("fault", text)

    if kind == "update":
        work["cells"][frame[1]] = ("on", word)
        return ("value", word)
    if kind == "seq":
        return ("eval", frame[1], (*frame[2], word))
    wanted = {"show": "con", "head": "number", "apply": "part", "case": "con", "pick": "number", "right": "number",
              "prim": "number"}[kind]
    if cell[0] != wanted:
        return ("stuck",)
    if kind == "show":
        if cell[1] == 0:
            events.append(("end",))
            return ("end",)
        if (cell[1], len(cell[2])) != (1, 2):
            return ("stuck",)
        stack.append(("head", cell[2][1]))
        return ("enter", cell[2][0])
    if kind == "head":
        events.append(("show", number))
        stack.append(("show",))
        return ("enter", frame[1])
    if kind == "apply":
        arity, body = work["functions"][cell[1]]
        words = cell[2] + frame[1]
        if len(words) < arity:
            return ("value", *make(work, [("part", cell[1], words)]))
        if words[arity:]:
            stack.append(("apply", words[arity:]))
        return ("eval", body, words[:arity])
    if kind in ("case", "pick"):
        _, alternatives, default, words = frame
        for alternative in alternatives:
            if kind == "pick" and alternative[0] == number:
                return ("eval", alternative[1], words)
            if kind == "case" and alternative[:2] == (cell[1], len(cell[2])):
                return ("eval", alternative[2], words + cell[2])
        return fault("no match") if default is None else ("eval", default, (*words, word))
    if kind == "right":
        stack.append(("prim", frame[1], number))
        return ("enter", operand_word(frame[2], frame[3]))
    _, sign, first = frame
    if sign in ("==", "<", "<="):
        holds = {"==": first == number, "<": first < number, "<=": first <= number}[sign]
        return ("value", *make(work, [("con", int(holds), ())]))
    if sign in ("div", "mod") and number == 0:
        return fault("division by zero")
    result = {"+": first + number, "-": first - number, "*": first * number}.get(sign)
    if result is None:
        result = divmod(first, number)[sign == "mod"]
    return ("value", 2 * result + 1) if abs(result) <= LIMIT else fault("overflow")


# Collections: one pass that only finds the order, and one that replaces.

def slow_roots(global_count, stack, now):
    found = [2 * address for address in range(global_count)]
    for thing in (*stack, now):
        found.extend(words_in(thing))
    return found


def words_in(thing):
    kind = thing[0]
    if kind == "update":
        return [2 * thing[1]]
    if kind in ("head", "on", "value", "enter"):
        return [thing[1]]
    if kind == "apply":
        return list(thing[1])
    if kind in ("seq", "eval", "con", "part", "later"):
        return list(thing[2])
    return list(thing[3]) if kind in ("case", "pick", "right") else []


def slow_collect_cells(cells, global_count, stack, now):
    def behind(word):
        while word % 2 == 0 and cells[word // 2][0] == "on":
            word = cells[word // 2][1]
        return word

    order = list(range(global_count))

    def meet(words):
        for word in map(behind, words):
            if word % 2 == 0 and word // 2 not in order:
                order.append(word // 2)

    meet(slow_roots(global_count, stack, now))
    for address in order:
        meet(words_in(cells[address]))

    def new(word):
        word = behind(word)
        return word if word % 2 else 2 * order.index(word // 2)

    def replaced(thing):
        kind = thing[0]
        if kind == "update":
            return (kind, new(2 * thing[1]) // 2)
        if kind in ("head", "on", "value", "enter"):
            return (kind, new(thing[1]))
        place = {"apply": 1, "seq": 2, "eval": 2, "con": 2, "part": 2, "later": 2, "case": 3, "pick": 3,
                 "right": 3}.get(kind)
        if place is None:
            return thing
        return thing[:place] + (tuple(map(new, thing[place])),) + thing[place + 1:]

    return ({at: replaced(cells[address]) for at, address in enumerate(order)}, len(order), list(map(replaced, stack)),
            replaced(now))


def slow_collect(state):
    if state["now"][0] in STOPPED:
        return state
    cells, after, stack, now = slow_collect_cells(state["cells"], len(state["functions"]), state["stack"], state["now"])
    return {**state, "cells": cells, "next": after, "stack": stack, "now": now, "collections": state["collections"] + 1}


def slow_run(program, room, schedule, steps):
    state = begin(program, room)
    for number in range(steps):
        if number in schedule:
            state = slow_collect(state)
        state = slow_step(state)
    now = state["now"] if state["now"][0] in STOPPED else ("more",)
    return (tuple(state["events"]), now, len(state["entered"]), state["collections"])

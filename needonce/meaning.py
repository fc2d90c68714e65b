"""The meaning of core terms and programs, by steps that share nothing.

An environment is a dict from names to what they stand for: ("term", term, environment) or ("head", head). A head is
("num", number), ("con", tag, arguments, environment) or ("fun", name, body, environment). A frame is what is to be
done with a head; its environment is the last member.
"""

from needonce.forms import LARGEST_NUMBER

FAULTS = ("no match", "division by zero", "overflow")

NO_MATCH = ("fault", "no match")
BY_ZERO = ("fault", "division by zero")
OVERFLOW = ("fault", "overflow")
STUCK = ("stuck",)
MORE = ("more",)


def head_of(program, term, fuel):
    """Evaluates a term with free names that are global. Returns the result, the number of steps and the notes."""
    machine = Evaluation(program, fuel)
    machine.begin(term, {})
    result = machine.run()
    if result[0] == "con":
        result = ("con", result[1], len(result[2]))
    elif result[0] == "fun":
        result = ("fun",)
    return (result, machine.steps, tuple([number for _, number in machine.events]))


def shown(program, fuel):
    """Returns the events of a program, its state, and the number of steps."""
    machine = Evaluation(program, fuel)
    state = None
    machine.begin(("var", program[1]), {})
    while state is None:
        state = _show_next(machine)
    if state[0] in ("end", "fault"):
        machine.events.append(state)
    return (tuple(machine.events), state, machine.steps)


def _show_next(machine):
    """Evaluates what should be a list, and its first number. Returns the state at the end, None if it goes on."""
    head = machine.run()
    if head[0] in ("fault", "more", "stuck"):
        return head
    if head[0] != "con" or (head[1], len(head[2])) not in ((0, 0), (1, 2)):
        return STUCK
    if head[1] == 0:
        return ("end",)
    first, rest = head[2]
    machine.begin(first, head[3])
    number = machine.run()
    if number[0] in ("fault", "more", "stuck"):
        return number
    if number[0] != "num":
        return STUCK
    machine.events.append(("show", number[1]))
    machine.begin(rest, head[3])
    return None


class Evaluation:
    """An evaluation of terms, one after the other, that share the fuel and the events."""

    def __init__(self, program, fuel):
        self.terms = dict(program[0])
        self.fuel = fuel
        self.steps = 0
        self.events = []
        self.stack = []
        # What is evaluated, or None if there is a head.
        self.term = None
        self.around = {}
        self.head = None

    def begin(self, term, around):
        """A term in an environment will be evaluated next. The stack is empty."""
        self.term = term
        self.around = around

    def run(self):
        """Does steps as long as there are any. Returns a head, a fault, ("stuck",) or ("more",)."""
        while True:
            if self.term is not None:
                self.look_for_head()
            if self.term is None and not self.stack:
                return self.head
            if self.steps == self.fuel:
                return MORE
            self.steps += 1
            if self.term is None:
                go_on = CONTINUATIONS[self.stack[-1][0]]
                end = go_on(self, self.stack.pop())
            else:
                evaluate = EVALUATIONS[self.term[0]]
                end = evaluate(self, self.term, self.around)
            if end is not None:
                return end

    def look_for_head(self):
        """If the term is a head, or a name that stands for one, this is the head from now on."""
        term = self.term
        word = term[0]
        if word == "num":
            self.put(term)
        elif word == "con":
            self.put(("con", term[1], term[2], self.around))
        elif word == "lam":
            self.put(("fun", term[1], term[2], self.around))
        elif word == "var" and term[1] in self.around and self.around[term[1]][0] == "head":
            self.put(self.around[term[1]][1])

    def put(self, head):
        self.head = head
        self.term = None


def _evaluate_var(machine, term, around):
    name = term[1]
    if name in around:
        _, machine.term, machine.around = around[name]
    elif name in machine.terms:
        machine.begin(machine.terms[name], {})
    else:
        return STUCK
    return None


def _evaluate_app(machine, term, around):
    machine.stack.append(("argument", term[2], around))
    machine.term = term[1]


def _evaluate_let(machine, term, around):
    inner = dict(around)
    for name, own in term[1]:
        inner[name] = ("term", own, inner)
    machine.begin(term[2], inner)


def _evaluate_seq(machine, term, around):
    machine.stack.append(("seq", term[1], term[3], around))
    machine.term = term[2]


def _evaluate_choice(machine, term, around):
    machine.stack.append((term[0], term[2], term[3], around))
    machine.term = term[1]


def _evaluate_prim(machine, term, around):
    machine.stack.append(("second", term[1], term[3], around))
    machine.term = term[2]


def _evaluate_note(machine, term, around):
    machine.events.append(("note", term[1]))
    machine.term = term[2]


EVALUATIONS = {"var": _evaluate_var, "app": _evaluate_app, "let": _evaluate_let, "seq": _evaluate_seq,
               "case": _evaluate_choice, "pick": _evaluate_choice, "prim": _evaluate_prim, "note": _evaluate_note}


def _apply(machine, frame):
    head = machine.head
    if head[0] != "fun":
        return STUCK
    inner = dict(head[3])
    inner[head[1]] = ("term", frame[1], frame[2])
    machine.begin(head[2], inner)
    return None


def _go_on_with_head(machine, name, body, around):
    """Evaluates a body in which the name stands for the head."""
    inner = dict(around)
    inner[name] = ("head", machine.head)
    machine.begin(body, inner)


def _go_on_with_seq(machine, frame):
    _, name, body, around = frame
    _go_on_with_head(machine, name, body, around)


def _go_on_with_case(machine, frame):
    _, alternatives, default, around = frame
    head = machine.head
    if head[0] != "con":
        return STUCK
    for tag, names, body in alternatives:
        if tag == head[1] and len(names) == len(head[2]):
            inner = dict(around)
            for name, argument in zip(names, head[2]):
                inner[name] = ("term", argument, head[3])
            machine.begin(body, inner)
            return None
    return _go_on_with_default(machine, default, around)


def _go_on_with_pick(machine, frame):
    _, alternatives, default, around = frame
    if machine.head[0] != "num":
        return STUCK
    for number, body in alternatives:
        if number == machine.head[1]:
            machine.begin(body, around)
            return None
    return _go_on_with_default(machine, default, around)


def _go_on_with_default(machine, default, around):
    if default is None:
        return NO_MATCH
    _go_on_with_head(machine, default[0], default[1], around)
    return None


def _go_on_with_second(machine, frame):
    _, sign, second, around = frame
    if machine.head[0] != "num":
        return STUCK
    machine.stack.append(("first", sign, machine.head[1]))
    machine.begin(second, around)
    return None


def _go_on_with_first(machine, frame):
    _, sign, first = frame
    if machine.head[0] != "num":
        return STUCK
    result = prim_result(sign, first, machine.head[1])
    if result[0] == "fault":
        return result
    machine.put(result if result[0] == "num" else ("con", result[1], (), {}))
    return None


CONTINUATIONS = {"argument": _apply, "seq": _go_on_with_seq, "case": _go_on_with_case, "pick": _go_on_with_pick,
                 "second": _go_on_with_second, "first": _go_on_with_first}


def prim_result(sign, one, other):
    """Returns the result of an operator with two numbers: a num, a con without arguments, or a fault."""
    if sign in ("==", "<", "<="):
        return ("con", 1 if _holds(sign, one, other) else 0, ())
    if sign in ("div", "mod") and other == 0:
        return BY_ZERO
    number = _worked_out(sign, one, other)
    if not -LARGEST_NUMBER <= number <= LARGEST_NUMBER:
        return OVERFLOW
    return ("num", number)


def _holds(sign, one, other):
    if sign == "==":
        return one == other
    if sign == "<":
        return one < other
    return one <= other


def _worked_out(sign, one, other):
    if sign == "+":
        return one + other
    if sign == "-":
        return one - other
    if sign == "*":
        return one * other
    if sign == "div":
        return one // other
    return one - other * (one // other)

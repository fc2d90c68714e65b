"""Other readings of parts 5 and 6: the same as the program does, in another way, and without care for time."""

COMPARISONS = ("==", "<", "<=")
LIMIT = 10 ** 15


# Parts of terms.

def parts(term):
    """The pairs (names bound in this part by the term itself, part)."""
    kind = term[0]
    if kind in ("num", "var"):
        return []
    if kind == "app":
        return [((), term[1]), ((), term[2])]
    if kind == "lam":
        return [((term[1],), term[2])]
    if kind == "let":
        names = tuple(name for name, _ in term[1])
        return [(names, inner) for _, inner in term[1]] + [(names, term[2])]
    if kind == "seq":
        return [((), term[2]), ((term[1],), term[3])]
    if kind == "con":
        return [((), inner) for inner in term[2]]
    if kind == "case":
        default = [((term[3][0],), term[3][1])] if term[3] else []
        return [((), term[1])] + [(names, body) for _, names, body in term[2]] + default
    if kind == "pick":
        default = [((term[3][0],), term[3][1])] if term[3] else []
        return [((), term[1])] + [((), body) for _, body in term[2]] + default
    if kind == "prim":
        return [((), term[2]), ((), term[3])]
    return [((), term[2])]


def free(term):
    if term[0] == "var":
        return {term[1]}
    found = set()
    for names, inner in parts(term):
        found |= free(inner) - set(names)
    return found


def count(term):
    return 1 + sum(count(inner) for _, inner in parts(term))


def arity(term):
    return 1 + arity(term[2]) if term[0] == "lam" else 0


def alike(one, other, names=()):
    """Whether two terms differ in the names of bound variables only; names are pairs of those, the last first."""
    if one[0] != other[0] or len(one) != len(other):
        return False
    if one[0] == "var":
        for name, other_name in names:
            if name == one[1] or other_name == other[1]:
                return (name, other_name) == (one[1], other[1])
        return one[1] == other[1]
    mine, others = parts(one), parts(other)
    if shape(one) != shape(other) or [len(each) for each, _ in mine] != [len(each) for each, _ in others]:
        return False
    return all(alike(inner, other_inner, tuple(zip(bound, other_bound)) + names)
               for (bound, inner), (other_bound, other_inner) in zip(mine, others))


def shape(term):
    """What is in a term besides names and terms."""
    kind = term[0]
    if kind in ("num", "prim", "con", "note"):
        return (kind, term[1], len(parts(term)))
    if kind in ("case", "pick"):
        return (kind, tuple(alternative[0] for alternative in term[2]), term[3] is None)
    return (kind, len(parts(term)))


# The meaning, by putting terms in the place of names. A name of a term becomes ("delay", find), of which the evaluation
# is a step and goes on with what find() gives; a name of a head becomes ("head", head).

def put(term, found):
    """The term with things in the place of free names. They are closed, so nothing is captured."""
    if term[0] == "var":
        return found.get(term[1], term)
    if term[0] in ("num", "delay", "head"):
        return term

    def less(names):
        return {name: thing for name, thing in found.items() if name not in names}

    kind = term[0]
    if kind == "lam":
        return ("lam", term[1], put(term[2], less((term[1],))))
    if kind == "let":
        rest = less([name for name, _ in term[1]])
        return ("let", tuple((name, put(inner, rest)) for name, inner in term[1]), put(term[2], rest))
    if kind == "seq":
        return ("seq", term[1], put(term[2], found), put(term[3], less((term[1],))))
    if kind == "con":
        return ("con", term[1], tuple(put(inner, found) for inner in term[2]))
    if kind in ("case", "pick"):
        if kind == "case":
            new = tuple((tag, names, put(body, less(names))) for tag, names, body in term[2])
        else:
            new = tuple((number, put(body, found)) for number, body in term[2])
        default = term[3] and (term[3][0], put(term[3][1], less((term[3][0],))))
        return (kind, put(term[1], found), new, default)
    return (*term[:2 if kind in ("prim", "note") else 1], *[put(inner, found) for _, inner in parts(term)])


class Stop(Exception):
    pass


class SlowEvaluation:
    def __init__(self, program, fuel):
        self.terms = dict(program[0])
        self.left = fuel
        self.fuel = fuel
        self.events = []

    def step(self):
        if self.left == 0:
            raise Stop(("more",))
        self.left -= 1

    def head(self, term):
        stack = []
        while True:
            kind = term[0]
            head = term[1] if kind == "head" else term if kind in ("num", "lam", "con") else None
            if head is not None and not stack:
                return head
            self.step()
            if head is not None:
                term = self.go_on(stack, head)
            elif kind == "var":
                if term[1] not in self.terms:
                    raise Stop(("stuck",))
                term = self.terms[term[1]]
            elif kind == "delay":
                term = term[1]()
            elif kind == "app":
                stack.append(("app", term[2]))
                term = term[1]
            elif kind == "let":
                term = put(term[2], self.group(term[1]))
            elif kind == "note":
                self.events.append(("note", term[1]))
                term = term[2]
            elif kind == "seq":
                stack.append(term)
                term = term[2]
            elif kind == "prim":
                stack.append(term)
                term = term[2]
            else:
                stack.append(term)
                term = term[1]

    @staticmethod
    def group(pairs):
        found = {}
        for name, inner in pairs:
            found[name] = ("delay", lambda inner=inner: put(inner, found))
        return found

    @staticmethod
    def delay(term):
        return ("delay", lambda: term)

    def go_on(self, stack, head):
        frame = stack.pop()
        kind = frame[0]
        if kind == "seq":
            return put(frame[3], {frame[1]: ("head", head)})
        wanted = {"app": "lam", "case": "con", "pick": "num", "prim": "num", "number": "num"}[kind]
        if head[0] != wanted:
            raise Stop(("stuck",))
        if kind == "app":
            return put(head[2], {head[1]: self.delay(frame[1])})
        if kind == "prim":
            stack.append(("number", frame[1], head[1]))
            return frame[3]
        if kind == "number":
            return self.result(frame[1], frame[2], head[1])
        for alternative in frame[2]:
            if kind == "pick" and alternative[0] == head[1]:
                return alternative[1]
            if kind == "case" and alternative[0] == head[1] and len(alternative[1]) == len(head[2]):
                return put(alternative[2], {name: self.delay(inner) for name, inner in zip(alternative[1], head[2])})
        if frame[3] is None:
            raise Stop(("fault", "no match"))
        return put(frame[3][1], {frame[3][0]: ("head", head)})

    @staticmethod
    def result(sign, a, b):
        if sign in COMPARISONS:
            return ("con", int({"==": a == b, "<": a < b, "<=": a <= b}[sign]), ())
        if sign in ("div", "mod") and b == 0:
            raise Stop(("fault", "division by zero"))
        number = {"+": a + b, "-": a - b, "*": a * b}.get(sign)
        if number is None:
            number = divmod(a, b)[sign == "mod"]
        if abs(number) > LIMIT:
            raise Stop(("fault", "overflow"))
        return ("num", number)


def slow_head_of(program, term, fuel):
    work = SlowEvaluation(program, fuel)
    try:
        head = work.head(term)
        result = {"num": head[:2], "con": (*head[:2], len(head[2]) if head[0] == "con" else 0), "lam": ("fun",)}[head[0]]
    except Stop as stop:
        result = stop.args[0]
    return (result, work.fuel - work.left, tuple(number for _, number in work.events))


def slow_shown(program, fuel):
    work = SlowEvaluation(program, fuel)
    try:
        state = slow_list(work, program)
    except Stop as stop:
        state = stop.args[0]
    if state[0] in ("end", "fault"):
        work.events.append(state)
    return (tuple(work.events), state, work.fuel - work.left)


def slow_list(work, program):
    term = ("var", program[1])
    while True:
        head = work.head(term)
        if head[0] != "con" or (head[1], len(head[2])) not in ((0, 0), (1, 2)):
            return ("stuck",)
        if head[1] == 0:
            return ("end",)
        number = work.head(head[2][0])
        if number[0] != "num":
            return ("stuck",)
        work.events.append(("show", number[1]))
        term = head[2][1]


def pages(events):
    """For each number shown, and for the end or a fault, with what is noted before it, as a set."""
    found = []
    notes = set()
    for event in events:
        if event[0] == "note":
            notes.add(event[1])
        else:
            found.append((event, frozenset(notes)))
    return found


# Leads, by the words of point 6.4.

def slow_lead(program, table, term):
    arities = {name: arity(inner) for name, inner in program[0]}
    return lead_of(arities, dict(table), term, frozenset(), frozenset(), {})


def spine(term):
    if term[0] != "app":
        return term, []
    function, arguments = spine(term[1])
    return function, [*arguments, term[2]]


def minus(names, heads):
    return tuple(name for name in names if name not in heads)


def lead_of(arities, table, term, heads, hidden, lets):
    def find(inner, more_heads=(), more_hidden=()):
        return lead_of(arities, table, inner, heads | set(more_heads), hidden | set(more_hidden), lets)

    kind = term[0]
    if kind in ("num", "lam", "con"):
        return (), True
    if kind == "var":
        name = term[1]
        if name in heads:
            return (), True
        if name in arities:
            return (), arities[name] >= 1
        if name in hidden:
            return (), False
        if name in lets:
            return minus(lets[name][0], heads), lets[name][1]
        return (name,), True
    if kind == "note":
        return (), False
    if kind == "prim":
        names, clean = find(term[2])
        if not clean:
            return names, False
        more, more_clean = find(term[3], names)
        return names + more, more_clean and term[1] in COMPARISONS
    if kind == "seq":
        names, clean = find(term[2])
        if not clean:
            return names, False
        more, more_clean = find(term[3], (*names, term[1]))
        return names + more, more_clean
    if kind in ("case", "pick"):
        return lead_of_choice(term, find)
    if kind == "let":
        bound = [name for name, _ in term[1]]
        if len(bound) == 1 and bound[0] not in free(term[1][0][1]):
            return lead_of(arities, table, term[2], heads, hidden, {**lets, bound[0]: find(term[1][0][1])})
        return find(term[2], (), bound)
    function, arguments = spine(term)
    many = arities.get(function[1], 0) if function[0] == "var" else 0
    if many > len(arguments):
        return (), True
    if many == 0:
        return find(function)[0], False
    names = ()
    for index in table.get(function[1], ()):
        more, clean = find(arguments[index], names)
        names += more
        if not clean:
            break
    return names, False


def lead_of_choice(term, find):
    kind, examined, alternatives, default = term
    names, clean = find(examined)
    if not clean:
        return names, False
    branches = []
    for alternative in alternatives:
        branches.append(find(alternative[-1], names, alternative[1] if kind == "case" else ()))
    if default is not None:
        branches.append(find(default[1], (*names, default[0])))
    empty = {alternative[0] for alternative in alternatives if kind == "case" and alternative[1] == ()}
    sure = kind == "case" and examined[0] == "prim" and examined[1] in COMPARISONS and {0, 1} <= empty
    if default is None and not sure:
        return names, False
    common = ()
    for members in zip(*[more for more, _ in branches]):
        if len(set(members)) > 1:
            break
        common += members[:1]
    return names + common, all(more_clean for _, more_clean in branches) and len({more for more, _ in branches}) == 1


# The steps of simplify, by the words of point 6.11.

def stands(name, term):
    """How often a name stands free in a term."""
    if term[0] == "var":
        return int(term[1] == name)
    return sum(stands(name, inner) for names, inner in parts(term) if name not in names)


def stands_outside_of_lams(name, term):
    if term[0] == "var":
        return int(term[1] == name)
    if term[0] == "lam":
        return 0
    return sum(stands_outside_of_lams(name, inner) for names, inner in parts(term) if name not in names)


def steps(term):
    """The numbers of the steps of point 6.11 that apply anywhere in a term."""
    found = set()
    for _, inner in parts(term):
        found |= steps(inner)
    kind = term[0]
    if kind == "app" and term[1][0] == "lam":
        found.add(1)
    if kind == "let":
        found |= let_steps(term)
    if kind == "case" and term[1][0] == "con":
        fits = [names for tag, names, _ in term[2] if (tag, len(names)) == (term[1][1], len(term[1][2]))]
        if fits or term[3]:
            found.add(5)
    if kind == "pick" and term[1][0] == "num" and (term[3] or term[1][1] in [number for number, _ in term[2]]):
        found.add(6)
    if kind == "prim" and term[2][0] == term[3][0] == "num":
        try:
            SlowEvaluation.result(term[1], term[2][1], term[3][1])
            found.add(7)
        except Stop:
            pass
    return found


def let_steps(term):
    found = set()
    pairs, body = term[1:]
    names = [name for name, _ in pairs]
    for name, own in pairs:
        others = sum(stands(name, inner) for other, inner in pairs if other != name)
        if others + stands(name, body) == 0:
            found.add(2)
        if own[0] == "num" or (own[0] == "var" and own[1] not in names):
            found.add(3)
        if others + stands(name, own) == 0 and stands(name, body) == stands_outside_of_lams(name, body) == 1:
            found.add(4)
    return found

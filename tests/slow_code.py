"""Other readings of parts 7 and 8: the same as the program does, or back from what it did, by plain recursion."""

from tests.slow import free, parts

LIMIT = 10 ** 15
SIGNS = ("+", "-", "*", "div", "mod", "==", "<", "<=")


# Lifting, backwards.

def applied(function, arguments):
    for argument in arguments:
        function = ("app", function, argument)
    return function


def lams(names, body):
    for name in reversed(names):
        body = ("lam", name, body)
    return body


def spine(term):
    """The function part and the arguments of a call; of another term, itself and none."""
    arguments = []
    while term[0] == "app":
        arguments.insert(0, term[2])
        term = term[1]
    return term, arguments


def with_inner(term, change):
    """The term with change(part) in the place of each part."""
    kind = term[0]
    if kind in ("num", "var"):
        return term
    if kind == "app":
        return ("app", change(term[1]), change(term[2]))
    if kind == "let":
        return ("let", tuple((name, change(inner)) for name, inner in term[1]), change(term[2]))
    if kind == "seq":
        return ("seq", term[1], change(term[2]), change(term[3]))
    if kind == "con":
        return ("con", term[1], tuple(change(inner) for inner in term[2]))
    if kind in ("case", "pick"):
        default = term[3] and (term[3][0], change(term[3][1]))
        return (kind, change(term[1]), tuple((*each[:-1], change(each[-1])) for each in term[2]), default)
    if kind == "prim":
        return ("prim", term[1], change(term[2]), change(term[3]))
    return (kind, term[1], change(term[2]))


def unlifted(lifted, names):
    """The program of which the definitions have these names, with each new function back in its place."""
    functions, main = lifted
    new = {name: (params, body) for name, params, body in functions if name not in names}
    used = []

    def back(term):
        function, arguments = spine(term)
        if function[0] == "var" and function[1] in new:
            params, body = new[function[1]]
            used.append(function[1])
            return add_arguments(params, body, arguments)
        return with_inner(term, back)

    def add_arguments(params, body, arguments):
        many = 0
        while many < len(params) and many < len(arguments) and arguments[many] == ("var", params[many]):
            many += 1
        lam = lams(params[many:], back(body))
        assert sorted(free(lam) - set(names)) == list(params[:many]), (params, arguments)
        return applied(lam, [back(argument) for argument in arguments[many:]])

    definitions = tuple((name, lams(params, back(body))) for name, params, body in functions if name in names)
    assert sorted(used) == sorted(new), "each new function is used once"
    return (definitions, main)


def lam_free(term):
    return term[0] != "lam" and all(lam_free(inner) for _, inner in parts(term))


# The normal form, backwards.

def unnormal(normal, lifted):
    """The lifted program again: what got a new name is back in its place, and each delayed thing is the right one."""
    counts = {name: len(params) for name, params, _ in lifted[0]}
    functions = []
    for (name, params, body), (_, _, term) in zip(normal[0], lifted[0]):
        work = Unnormal(counts, {each for names in all_bound(term) for each in names})
        functions.append((name, params, work.back(body)))
        assert all(many == 1 for many in work.uses.values()), "each new name is used once"
    return (tuple(functions), normal[1])


def all_bound(term):
    return [names for names, _ in parts(term)] + [names for _, inner in parts(term) for names in all_bound(inner)]


class Unnormal:
    def __init__(self, counts, own):
        self.counts = counts
        self.own = own
        self.new = {}
        self.uses = {}

    def atom(self, atom):
        if not isinstance(atom, str):
            return ("num", atom)
        if atom not in self.new:
            return ("var", atom)
        self.uses[atom] += 1
        return self.new[atom]()

    def later(self, name, find):
        self.new[name] = find
        self.uses[name] = 0

    def back(self, body):
        kind = body[0]
        if kind in ("atom", "later"):
            return self.atom(body[1]) if kind == "atom" else self.back(body[1])
        if kind in ("call", "part"):
            function = self.atom(body[1]) if kind == "call" else ("var", body[1])
            return applied(function, [self.atom(atom) for atom in body[2]])
        if kind == "con":
            return ("con", body[1], tuple(self.atom(atom) for atom in body[2]))
        if kind == "prim":
            assert all(not isinstance(atom, str) or atom in self.new for atom in body[2:]), body
            return ("prim", body[1], self.atom(body[2]), self.atom(body[3]))
        if kind == "seq" and body[1] not in self.own:
            self.later(body[1], lambda: self.back(body[2]))
            assert body[3][0] in ("call", "prim") or (body[3][0] == "seq" and body[3][1] not in self.own), body
            return self.back(body[3])
        if kind == "let":
            return self.let(body)
        return with_inner(body, self.back)

    def let(self, body):
        for name, thing in body[1]:
            if name not in self.own:
                self.later(name, lambda thing=thing: self.delayed(thing, True))
        pairs = tuple((name, self.delayed(thing, False)) for name, thing in body[1] if name in self.own)
        if pairs:
            return ("let", pairs, self.back(body[2]))
        assert body[2][0] in ("call", "con") or (body[2][0] == "seq" and body[2][1] not in self.own), body
        return self.back(body[2])

    def delayed(self, thing, new):
        term = self.back(thing)
        function, arguments = spine(term)
        partial = arguments and function[0] == "var" and self.counts.get(function[1], 0) > len(arguments)
        assert thing[0] == ("con" if term[0] == "con" else "part" if partial else "later"), thing
        assert not new or term[0] not in ("num", "var"), thing
        return term


# What a normal program is.

def slow_is_normal(program):
    functions, main = program
    if any(type(each) is not tuple or len(each) != 3 or not is_name(each[0]) for each in functions):
        return False
    counts = {each[0]: each[1] for each in functions}
    if len(counts) != len(functions) or not all(are_names(params) for params in counts.values()):
        return False
    return counts.get(main) == () and all(is_body(body, set(params), counts) for _, params, body in functions)


def is_name(thing):
    return type(thing) is str and 0 < len(thing) <= 80 and all("!" <= each <= "~" and each != "%" for each in thing)


def are_names(things):
    return type(things) is tuple and all(map(is_name, things)) and len(set(things)) == len(things)


def is_between(thing, least, greatest):
    return type(thing) is int and least <= thing <= greatest


def is_body(body, scope, counts):
    def atom(thing):
        return is_between(thing, -LIMIT, LIMIT) or (type(thing) is str and (thing in scope or thing in counts))

    def atoms(things):
        return type(things) is tuple and all(map(atom, things))

    def default(pair):
        return pair is None or (row(pair, 2) and is_name(pair[0]) and is_body(pair[1], scope | {pair[0]}, counts))

    if type(body) is not tuple or not body:
        return False
    kind, rest = body[0], body[1:]
    if kind == "atom":
        return len(rest) == 1 and atom(rest[0])
    if kind == "call":
        return len(rest) == 2 and type(rest[0]) is str and atom(rest[0]) and atoms(rest[1]) and rest[1] != ()
    if kind == "con":
        return len(rest) == 2 and is_between(rest[0], 0, 1000) and atoms(rest[1])
    if kind == "prim":
        return len(rest) == 3 and rest[0] in SIGNS and atom(rest[1]) and atom(rest[2])
    if kind == "let":
        if len(rest) != 2 or not rows(rest[0], 2) or not rest[0] or not are_names(tuple(each[0] for each in rest[0])):
            return False
        inner = scope | {name for name, _ in rest[0]}
        return all(is_delayed(each[1], inner, counts) for each in rest[0]) and is_body(rest[1], inner, counts)
    if kind == "seq":
        return (len(rest) == 3 and is_name(rest[0]) and is_body(rest[1], scope, counts)
                and is_body(rest[2], scope | {rest[0]}, counts))
    if kind == "note":
        return len(rest) == 2 and is_between(rest[0], 0, 10 ** 12) and is_body(rest[1], scope, counts)
    if kind == "case":
        return (len(rest) == 3 and is_body(rest[0], scope, counts) and rows(rest[1], 3) and default(rest[2])
                and all(is_between(each[0], 0, 1000) and are_names(each[1])
                        and is_body(each[2], scope | set(each[1]), counts) for each in rest[1]))
    if kind == "pick":
        return (len(rest) == 3 and is_body(rest[0], scope, counts) and rows(rest[1], 2) and default(rest[2])
                and all(is_between(each[0], -LIMIT, LIMIT) and is_body(each[1], scope, counts) for each in rest[1])
                and len({each[0] for each in rest[1]}) == len(rest[1]))
    return False


def row(thing, many):
    return type(thing) is tuple and len(thing) == many


def rows(thing, many):
    return type(thing) is tuple and all(row(each, many) for each in thing)


def is_delayed(thing, scope, counts):
    if type(thing) is not tuple or not thing:
        return False
    if thing[0] == "later":
        return len(thing) == 2 and is_body(thing[1], scope, counts)
    if thing[0] == "part":
        return (row(thing, 3) and type(thing[1]) is str and thing[1] in counts
                and is_body(("con", 0, thing[2]), scope, counts) and 0 < len(thing[2]) < len(counts[thing[1]]))
    return thing[0] == "con" and is_body(thing, scope, counts)


# Compiling. A frame is a list of names; a later one hides an earlier one of the same name.

class Wrong(Exception):
    pass


def slow_compile(functions, main):
    names = [name for name, _, _ in functions]
    code = tuple((len(params), code_of(body, list(params), names)) for _, params, body in functions)
    if main not in names:
        raise Wrong("Unknown", main)
    if code[names.index(main)][0]:
        raise Wrong("BadArity", main)
    return (code, names.index(main))


def code_of(body, frame, names):
    def operand(atom):
        if type(atom) is int:
            return ("number", atom)
        if atom in frame:
            return ("slot", max(slot for slot, name in enumerate(frame) if name == atom))
        return ("global", known(atom))

    def known(name):
        if name not in names:
            raise Wrong("Unknown", name)
        return names.index(name)

    def operands(atoms):
        return tuple(operand(atom) for atom in atoms)

    def default(pair):
        return pair and code_of(pair[1], frame + [pair[0]], names)

    kind = body[0]
    if kind == "atom":
        return ("give", operand(body[1]))
    if kind == "call":
        return ("call", operand(body[1]), operands(body[2]))
    if kind == "con":
        return ("con", body[1], operands(body[2]))
    if kind == "part":
        return ("part", known(body[1]), operands(body[2]))
    if kind == "prim":
        return ("prim", body[1], *operands(body[2:]))
    if kind == "later":
        slots = sorted({operand(name)[1] for name in loose(body[1]) if name in frame})
        return ("later", tuple(("slot", slot) for slot in slots), code_of(body[1], [frame[each] for each in slots],
                                                                          names))
    if kind == "let":
        inner = frame + [name for name, _ in body[1]]
        return ("let", tuple(code_of(thing, inner, names) for _, thing in body[1]), code_of(body[2], inner, names))
    if kind == "seq":
        return ("seq", code_of(body[2], frame, names), code_of(body[3], frame + [body[1]], names))
    if kind == "case":
        return ("case", code_of(body[1], frame, names),
                tuple((tag, len(bound), code_of(each, frame + list(bound), names)) for tag, bound, each in body[2]),
                default(body[3]))
    if kind == "pick":
        return ("pick", code_of(body[1], frame, names),
                tuple((number, code_of(each, frame, names)) for number, each in body[2]), default(body[3]))
    return ("note", body[1], code_of(body[2], frame, names))


def loose(body):
    """The names that occur free in a body or a delayed thing, those of the functions of parts not."""
    kind = body[0]
    atoms = {"atom": body[1:2], "call": body[1:2] + tuple(body[2] if kind == "call" else ()), "prim": body[2:],
             "con": body[2] if kind in ("con", "part") else (), "part": body[2] if kind in ("con", "part") else ()}
    if kind in atoms:
        return {atom for atom in atoms[kind] if type(atom) is str}
    if kind == "later":
        return loose(body[1])
    if kind == "let":
        found = loose(body[2]).union(*[loose(thing) for _, thing in body[1]])
        return found - {name for name, _ in body[1]}
    if kind == "seq":
        return loose(body[2]) | (loose(body[3]) - {body[1]})
    if kind == "note":
        return loose(body[2])
    found = loose(body[1]) | (loose(body[3][1]) - {body[3][0]} if body[3] else set())
    return found.union(*[loose(each[-1]) - set(each[1] if kind == "case" else ()) for each in body[2]])


# Checking code.

def slow_is_code(program):
    if not row(program, 2) or not rows(program[0], 2):
        return False
    functions, main = program
    many = len(functions)
    return (all(is_natural(arity) and is_code(body, arity, many) for arity, body in functions)
            and is_between(main, 0, many - 1) and functions[main][0] == 0)


def is_natural(thing):
    return type(thing) is int and thing >= 0


def is_operand(thing, depth, many):
    if not row(thing, 2) or thing[0] not in ("slot", "global", "number"):
        return False
    limit = {"slot": depth, "global": many, "number": None}[thing[0]]
    return type(thing[1]) is int if limit is None else is_between(thing[1], 0, limit - 1)


def are_operands(things, depth, many):
    return type(things) is tuple and all(is_operand(thing, depth, many) for thing in things)


def is_member(thing, depth, many):
    if not row(thing, 3):
        return False
    if thing[0] == "later":
        return (are_operands(thing[1], depth, many) and all(each[0] == "slot" for each in thing[1])
                and is_code(thing[2], len(thing[1]), many))
    limit = {"con": None, "part": many}.get(thing[0], 0) if type(thing[0]) is str else 0
    return is_natural(thing[1]) and (limit is None or thing[1] < limit) and are_operands(thing[2], depth, many)


def is_code(body, depth, many):
    if type(body) is not tuple or not body:
        return False
    kind = body[0]
    if kind == "give":
        return len(body) == 2 and is_operand(body[1], depth, many)
    if kind == "prim":
        return len(body) == 4 and body[1] in SIGNS and are_operands(body[2:], depth, many)
    if kind in ("case", "pick"):
        heads = 2 if kind == "case" else 1
        return (len(body) == 4 and is_code(body[1], depth, many) and rows(body[2], heads + 1)
                and all(is_natural(each) for alternative in body[2] for each in alternative[:-1] if kind == "case")
                and all(type(alternative[0]) is int for alternative in body[2])
                and all(is_code(each[-1], depth + (each[1] if kind == "case" else 0), many) for each in body[2])
                and (body[3] is None or is_code(body[3], depth + 1, many)))
    if not row(body, 3):
        return False
    if kind == "call":
        return is_operand(body[1], depth, many) and are_operands(body[2], depth, many) and body[2] != ()
    if kind == "con":
        return is_natural(body[1]) and are_operands(body[2], depth, many)
    if kind == "let":
        if type(body[1]) is not tuple or not body[1]:
            return False
        inner = depth + len(body[1])
        return all(is_member(each, inner, many) for each in body[1]) and is_code(body[2], inner, many)
    if kind == "seq":
        return is_code(body[1], depth, many) and is_code(body[2], depth + 1, many)
    return kind == "note" and type(body[1]) is int and is_code(body[2], depth, many)

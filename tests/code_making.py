"""Makes normal programs and code programs by chance, and breaks them; always the same ones for the same seed."""

import random

SIGNS = ("+", "-", "*", "div", "mod", "==", "<", "<=")
NUMBERS = (0, 1, 2, 3, -1, -7, 10 ** 15, -10 ** 15)
POOL = ("a", "b", "c", "f", "g", "main")


class NormalMaker:
    """Names hide each other, params and functions. Mostly they are in scope; with wild=True, now and then not."""

    def __init__(self, seed, wild=False):
        self.chance = random.Random(seed)
        self.wild = wild

    def program(self, depth=4):
        self.counts = {name: self.chance.choice((0, 1, 2, 3)) for name in self.chance.sample(("f", "g", "h"), 2)}
        self.counts["main"] = 1 if self.wild and self.chance.random() < 0.1 else 0
        functions = []
        for name, many in self.counts.items():
            params = tuple(self.chance.sample(POOL, many))
            functions.append((name, params, self.body(list(params), depth)))
        self.chance.shuffle(functions)
        return (tuple(functions), "none" if self.wild and self.chance.random() < 0.1 else "main")

    def name(self, scope):
        if self.wild and self.chance.random() < 0.02:
            return self.chance.choice(("u1", "u2", "u3"))
        return self.chance.choice(scope * 3 + list(self.counts))

    def atom(self, scope):
        return self.chance.choice(NUMBERS) if self.chance.random() < 0.3 else self.name(scope)

    def atoms(self, scope, least=0):
        return tuple(self.atom(scope) for _ in range(self.chance.randint(least, 3)))

    def names(self, least):
        return tuple(self.chance.sample(POOL, self.chance.randint(least, 3)))

    def body(self, scope, depth):
        below = depth - 1
        kind = self.chance.choice(("atom", "call", "con", "prim") if depth == 0
                                  else ("call", "con", "let", "let", "let", "seq", "case", "pick", "note"))
        if kind == "atom":
            return ("atom", self.atom(scope))
        if kind == "call":
            return ("call", self.name(scope), self.atoms(scope, 1))
        if kind == "con":
            return ("con", self.chance.choice((0, 1, 1000)), self.atoms(scope))
        if kind == "prim":
            return ("prim", self.chance.choice(SIGNS), self.atom(scope), self.atom(scope))
        if kind == "let":
            names = self.names(1)
            inner = scope + list(names)
            return ("let", tuple((name, self.delayed(inner, below)) for name in names), self.body(inner, below))
        if kind == "seq":
            name = self.chance.choice(POOL)
            return ("seq", name, self.body(scope, below // 2), self.body(scope + [name], below))
        if kind == "note":
            return ("note", self.chance.choice((0, 5, 10 ** 12)), self.body(scope, below))
        default = None
        if self.chance.random() < 0.5:
            name = self.chance.choice(POOL)
            default = (name, self.body(scope + [name], below // 2))
        first = self.body(scope, below // 2)
        if kind == "pick":
            numbers = self.chance.sample(NUMBERS, self.chance.randint(0, 2))
            return ("pick", first, tuple((number, self.body(scope, below)) for number in numbers), default)
        alternatives = []
        for _ in range(self.chance.randint(0, 2)):
            names = self.names(0)
            alternatives.append((self.chance.choice((0, 1, 1000)), names, self.body(scope + list(names), below)))
        return ("case", first, tuple(alternatives), default)

    def delayed(self, scope, depth):
        found = [name for name, many in self.counts.items() if many > 1]
        kind = self.chance.choice(("later", "later", "con", "part"))
        if kind == "part" and found:
            name = self.chance.choice(found)
            return ("part", name, tuple(self.atom(scope) for _ in range(self.chance.randint(1, self.counts[name] - 1))))
        if kind == "con":
            return ("con", self.chance.choice((0, 1, 1000)), self.atoms(scope))
        return ("later", self.body(scope, depth))


class CodeMaker:
    """Code programs of every kind; the kinds of values are as chance has them."""

    def __init__(self, seed):
        self.chance = random.Random(seed)

    def program(self, depth=4):
        arities = [0] + [self.chance.choice((0, 1, 2, 3)) for _ in range(self.chance.randint(0, 3))]
        self.chance.shuffle(arities)
        self.arities = arities
        functions = tuple((arity, self.body(arity, depth)) for arity in arities)
        return (functions, self.chance.choice([index for index, arity in enumerate(arities) if arity == 0]))

    def operand(self, depth):
        kind = self.chance.choice(("slot", "slot", "slot", "global", "number", "number"))
        if kind == "slot" and depth:
            return ("slot", self.chance.randrange(depth))
        if kind == "global":
            return ("global", self.chance.randrange(len(self.arities)))
        return ("number", self.chance.choice(NUMBERS))

    def operands(self, depth, least=0):
        return tuple(self.operand(depth) for _ in range(self.chance.randint(least, 3)))

    def tag(self):
        return self.chance.choice((0, 0, 1, 1, 2, 1000))

    def list_of(self, depth):
        """A body that makes a list, so that the machine has something to show."""
        return ("con", 1, (self.operand(depth), self.operand(depth)))

    def body(self, depth, levels):
        below = levels - 1
        kind = self.chance.choice(("give", "call", "con", "prim", "list") if levels == 0
                                  else ("give", "call", "con", "prim", "list", "let", "let", "let", "let", "seq",
                                        "case",
                                        "pick", "note"))
        if kind == "give":
            return ("give", self.operand(depth))
        if kind == "call":
            return ("call", self.operand(depth), self.operands(depth, 1))
        if kind == "con":
            return ("con", self.tag(), self.operands(depth))
        if kind == "list":
            return self.list_of(depth)
        if kind == "prim":
            return ("prim", self.chance.choice(SIGNS), self.operand(depth), self.operand(depth))
        if kind == "let":
            many = self.chance.randint(1, 3)
            return ("let", tuple(self.member(depth + many, below) for _ in range(many)), self.body(depth + many, below))
        if kind == "seq":
            return ("seq", self.body(depth, below // 2), self.body(depth + 1, below))
        if kind == "note":
            return ("note", self.chance.choice((0, 5, 10 ** 20, -3)), self.body(depth, below))
        default = self.body(depth + 1, below // 2) if self.chance.random() < 0.5 else None
        first = self.body(depth, below // 2)
        alternatives = []
        for _ in range(self.chance.randint(0, 3)):
            if kind == "case":
                count = self.chance.choice((0, 0, 1, 2, 2, 3))
                alternatives.append((self.tag(), count, self.body(depth + count, below)))
            else:
                alternatives.append((self.chance.choice(NUMBERS), self.body(depth, below)))
        return (kind, first, tuple(alternatives), default)

    def member(self, depth, levels):
        kind = self.chance.choice(("later", "later", "con", "part"))
        if kind == "con":
            return ("con", self.tag(), self.operands(depth))
        if kind == "part":
            return ("part", self.chance.randrange(len(self.arities)), self.operands(depth))
        slots = tuple(("slot", self.chance.randrange(depth)) for _ in range(self.chance.randint(0, 3)))
        return ("later", slots, self.body(len(slots), levels))


JUNK = (None, True, False, "", "x", "slot", "a b", "%", "y" * 81, -1, 0, 1, 7, 1000, 1001, 10 ** 12 + 1, 10 ** 15 + 1,
        -10 ** 15 - 1, (), (1,), [], ["a"], ("slot", 0), ("slot", 9), ("number", 1), ("give", ("number", 1)),
        ("atom", 1),
        ("atom", "a"), ("con", 0, ()), ("later", ("atom", 1)), ("later", (), ("give", ("number", 0))), {}, 1.0)


def broken(thing, chance):
    """The thing with something else in one place, or with a member more, less or in another place."""
    if not isinstance(thing, tuple) or (not thing) or chance.random() < 0.12:
        return broken_here(thing, chance)
    place = chance.randrange(len(thing))
    return (*thing[:place], broken(thing[place], chance), *thing[place + 1:])


def broken_here(thing, chance):
    if isinstance(thing, tuple) and thing:
        place = chance.randrange(len(thing))
        how = chance.choice(("less", "more", "swap", "list", "junk", "end"))
        if how == "less":
            return thing[:place] + thing[place + 1:]
        if how == "more":
            return thing[:place] + (thing[place],) + thing[place:]
        if how == "swap":
            return thing[place:] + thing[:place]
        if how == "list":
            return list(thing)
        if how == "end":
            return thing + (chance.choice(JUNK),)
    if isinstance(thing, int) and chance.random() < 0.5:
        return thing + chance.choice((-1, 1, 2))
    return chance.choice(JUNK)

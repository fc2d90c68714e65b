"""Makes core programs by chance, always the same ones for the same seed.

The terms have types, so that no evaluation is stuck: "int", "bool", "list" (of integers), and "fun" (from an integer to
an integer). They may fault, note, and go on for ever.
"""

import random

KINDS = ("int", "bool", "list", "fun")
SIGNS = ("+", "-", "*", "div", "mod")
COMPARISONS = ("==", "<", "<=")
NIL = ("con", 0, ())


def cons(first, rest):
    return ("con", 1, (first, rest))


def call(function, *arguments):
    for argument in arguments:
        function = ("app", function, argument)
    return function


def lams(names, body):
    for name in reversed(names):
        body = ("lam", name, body)
    return body


class CoreMaker:
    """With apart=True no name is bound twice."""

    def __init__(self, seed, apart=True):
        self.chance = random.Random(seed)
        self.apart = apart
        self.made = 0
        self.globals = {}

    def name(self):
        self.made += 1
        return f"x{self.made}" if self.apart else self.chance.choice("abcdxyz")

    def program(self, depth=4):
        for index in range(self.chance.randint(1, 4)):
            arguments = tuple(self.chance.choice(KINDS) for _ in range(self.chance.choice((0, 1, 2, 2, 3))))
            self.globals[f"g{index}"] = (arguments, self.chance.choice(KINDS))
        definitions = []
        for name, (arguments, result) in self.globals.items():
            names = [self.name() for _ in arguments]
            env = dict(zip(names, arguments))
            if len(env) < len(names):
                names = [f"{each}{at}" for at, each in enumerate(names)]
                env = dict(zip(names, arguments))
            definitions.append((name, lams(names, self.term(result, env, depth))))
        definitions.append(("main", self.term("list", {}, depth)))
        self.chance.shuffle(definitions)
        return (tuple(definitions), "main")

    def leaf(self, kind, env):
        names = [name for name, other in env.items() if other == kind]
        if names and self.chance.random() < 0.7:
            return ("var", self.chance.choice(names))
        if kind == "int":
            return ("num", self.chance.choice((0, 1, 2, 3, -1, 7, 10 ** 15)))
        if kind == "bool":
            return ("con", self.chance.randint(0, 1), ())
        if kind == "list":
            return NIL
        if self.apart:
            name = self.name()
            return ("lam", name, ("var", name))
        return ("lam", "x", ("var", "x"))

    def term(self, kind, env, depth):
        if depth == 0:
            return self.leaf(kind, env)
        make = self.chance.choice((self.leaf, self.call_global, self.call_global, self.own, self.own, self.beta, self.let,
                                   self.let, self.seq, self.case_bool, self.case_list, self.pick, self.note))
        if make == self.leaf:
            return self.leaf(kind, env)
        return make(kind, env, depth - 1)

    def below(self, kind, env, depth):
        return self.term(kind, env, self.chance.choice((depth, depth, depth // 2, 0)))

    def call_global(self, kind, env, depth):
        found = [(name, arguments) for name, (arguments, result) in self.globals.items()
                 if result == kind and name not in env]
        part = [(name, arguments[:-1]) for name, (arguments, result) in self.globals.items()
                if kind == "fun" and result == "int" and arguments[-1:] == ("int",) and name not in env]
        over = [(name, (*arguments, "int")) for name, (arguments, result) in self.globals.items()
                if kind == "int" and result == "fun" and name not in env]
        if not found + part + over:
            return self.own(kind, env, depth)
        name, arguments = self.chance.choice(found + part + over)
        return call(("var", name), *[self.below(argument, env, depth) for argument in arguments])

    def own(self, kind, env, depth):
        if kind == "int":
            if self.chance.random() < 0.3:
                return ("app", self.below("fun", env, depth), self.below("int", env, depth))
            return ("prim", self.chance.choice(SIGNS), self.below("int", env, depth), self.below("int", env, depth))
        if kind == "bool":
            sign = self.chance.choice(COMPARISONS)
            return ("prim", sign, self.below("int", env, depth), self.below("int", env, depth))
        if kind == "list":
            return cons(self.below("int", env, depth), self.below("list", env, depth))
        name = self.name()
        return ("lam", name, self.below("int", {**env, name: "int"}, depth))

    def beta(self, kind, env, depth):
        name = self.name()
        argument = self.chance.choice(KINDS)
        return ("app", ("lam", name, self.below(kind, {**env, name: argument}, depth)),
                self.below(argument, env, depth))

    def let(self, kind, env, depth):
        names = []
        for _ in range(self.chance.choice((1, 1, 1, 2, 3))):
            name = self.name()
            if name not in names:
                names.append(name)
        inner = {**env, **{name: self.chance.choice(KINDS) for name in names}}
        own = self.chance.random() < 0.4 or len(names) > 1
        around = inner if own else {name: other for name, other in env.items() if name not in names}
        pairs = tuple((name, self.below(inner[name], around, depth)) for name in names)
        return ("let", pairs, self.below(kind, inner, depth))

    def seq(self, kind, env, depth):
        name = self.name()
        first = self.chance.choice(KINDS)
        return ("seq", name, self.below(first, env, depth), self.below(kind, {**env, name: first}, depth))

    def default(self, kind, first, env, depth):
        name = self.name()
        return (name, self.below(kind, {**env, name: first}, depth))

    def case_bool(self, kind, env, depth):
        examined = self.below("bool", env, depth)
        alternatives = [(tag, (), self.below(kind, env, depth)) for tag in (0, 1)]
        if self.chance.random() < 0.3:
            alternatives = alternatives[:self.chance.randint(0, 1)]
            return ("case", examined, tuple(alternatives), self.default(kind, "bool", env, depth))
        return ("case", examined, tuple(alternatives), None)

    def case_list(self, kind, env, depth):
        examined = self.below("list", env, depth)
        first, rest = self.name(), self.name()
        if first == rest:
            rest = first + "s"
        inner = {**env, first: "int", rest: "list"}
        alternatives = [(0, (), self.below(kind, env, depth)), (1, (first, rest), self.below(kind, inner, depth))]
        if self.chance.random() < 0.5:
            return ("case", examined, tuple(alternatives), None)
        self.chance.shuffle(alternatives)
        default = self.default(kind, "list", env, depth) if self.chance.random() < 0.7 else None
        return ("case", examined, tuple(alternatives[:1]), default)

    def pick(self, kind, env, depth):
        examined = self.below("int", env, depth)
        numbers = self.chance.sample((0, 1, 2, 3), self.chance.randint(0, 2))
        alternatives = tuple((number, self.below(kind, env, depth)) for number in numbers)
        default = self.default(kind, "int", env, depth) if self.chance.random() < 0.8 else None
        return ("pick", examined, alternatives, default)

    def note(self, kind, env, depth):
        return ("note", self.chance.randint(0, 99), self.below(kind, env, depth))

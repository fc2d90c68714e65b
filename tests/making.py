"""Makes programs by chance, always the same ones for the same seed."""

import random

NAMES = ("a", "b", "c", "x", "y", "x'", "foo_1", "lets", "in_", "zipWith")
CONS = ("A", "B'", "Cons", "Nil", "Pair", "True", "Data_1")
OPERATORS = ("==", "<", "<=", ":", "+", "-", "*", "div", "mod")


class Maker:
    """Trees of part 2. They need not be in order by part 3."""

    def __init__(self, seed, contexts=True):
        self.chance = random.Random(seed)
        self.contexts = contexts

    def name(self):
        return self.chance.choice(NAMES)

    def con(self):
        return self.chance.choice(CONS)

    def some(self, make, least, most):
        return tuple(make() for _ in range(self.chance.randint(least, most)))

    def number(self):
        return self.chance.choice((0, 1, 7, 42, 10 ** 12, self.chance.randrange(10 ** 12)))

    def kind(self, depth):
        word = self.chance.choice(("name", "con", "fun", "fun", "con")) if depth > 0 else "name"
        if word == "fun":
            return ("fun", self.kind(depth - 1), self.kind(depth - 1))
        if word == "con":
            return ("con", self.con(), self.some(lambda: self.kind(depth - 1), 0, 3))
        return self.chance.choice((("name", self.name()), ("con", self.con(), ())))

    def context(self):
        if not self.contexts:
            return ()
        return self.some(lambda: (self.con(), self.name()), 0, 3)

    def pattern(self):
        word = self.chance.choice(("pcon", "pnum", "pname"))
        if word == "pcon":
            return ("pcon", self.con(), self.some(self.name, 0, 3))
        return (word, self.number() if word == "pnum" else self.name())

    def expr(self, depth):
        if depth == 0:
            return self.chance.choice((("var", self.name()), ("con", self.con()), ("num", self.number()),
                                       ("list", ())))
        word = self.chance.choice(("app", "app", "op", "op", "op", "lam", "let", "if", "case", "list", "note"))
        below = self.chance.choice((depth - 1, depth - 1, 0))
        if word == "app":
            return ("app", self.expr(depth - 1), self.expr(below))
        if word == "op":
            parts = [self.expr(depth - 1), self.expr(below)]
            self.chance.shuffle(parts)
            return ("op", self.chance.choice(OPERATORS), *parts)
        if word == "lam":
            return ("lam", self.some(self.name, 1, 3), self.expr(depth - 1))
        if word == "let":
            return ("let", self.some(lambda: self.local(below), 0, 3), self.expr(depth - 1))
        if word == "if":
            return ("if", self.expr(below), self.expr(below), self.expr(depth - 1))
        if word == "case":
            return ("case", self.expr(below), self.some(lambda: (self.pattern(), self.expr(depth - 1)), 1, 3))
        if word == "list":
            return ("list", self.some(lambda: self.expr(depth - 1), 0, 3))
        return ("note", self.number(), self.expr(depth - 1))

    def define(self, depth):
        return ("define", self.name(), self.some(self.name, 0, 3), self.expr(depth))

    def sign(self, depth):
        return ("sign", self.name(), self.context(), self.kind(depth))

    def local(self, depth):
        return self.define(depth) if self.chance.random() < 0.6 else self.sign(depth)

    def declaration(self, depth):
        word = self.chance.choice(("data", "class", "instance", "local", "local"))
        if word == "data":
            built = self.some(lambda: (self.con(), self.some(lambda: self.kind(depth - 1), 0, 3)), 1, 3)
            return ("data", self.con(), self.some(self.name, 0, 3), built)
        if word == "class":
            return ("class", self.con(), self.name(), self.some(lambda: (self.name(), self.kind(depth)), 0, 3))
        if word == "instance":
            methods = self.some(lambda: self.define(depth)[1:], 0, 3)
            return ("instance", self.context(), self.con(), self.con(), self.some(self.name, 0, 2), methods)
        return self.local(depth)

    def program(self, depth):
        return self.some(lambda: self.declaration(depth), 0, 4)

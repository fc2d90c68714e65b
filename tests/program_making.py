"""Makes programs of declarations by chance: their names are in order by part 3, their types now and then."""

import random

from needonce.parser import parse
from tests.slow_types import SlowTypes

HEAD = parse("""
data T a = A | B a (T a)
data P a b = P a b
class C a where { c :: a -> Int ; make :: Int -> a }
class D a where { d :: a -> b -> Pack a b }
data Pack a b = Pack a b
class E a where { same :: a -> a }
""")

INSTANCES = parse("""
instance C Int where { c n = n ; make n = n }
instance C Bool where { c b = if b then 1 else 0 ; make n = n == 1 }
instance C a => C (List a) where { c xs = case xs of { [] -> 0 ; x : rest -> c x + c rest } ; make n = [make n] }
instance (C a, D b) => C (P a b) where { make n = make (n + 1) ; c p = case p of { P x y -> c x + c (d y p) } }
instance C b => C (Pack a b) where { c p = case p of { Pack x y -> c y } ; make n = make n }
instance D Int where { d x y = Pack x y }
instance C a => D (T a) where { d x y = case x of { A -> Pack x y ; B p q -> Pack (if c p < 1 then A else q) y } }
instance E Int where { same n = n }
instance (E a, E b) => E (P a b) where { same p = case p of { P x y -> P (same x) (same y) } }
instance E (T b) where { same t = case t of { A -> A ; B x y -> B x (same y) } }
""")

SIGNS = ("a -> a", "a -> b -> a", "Int -> Int", "List a -> List a", "C a => a -> Int", "(C a, D b) => a -> b -> Int",
         "E a => a -> a", "T a -> List a", "C b => T a -> b -> b", "List Int", "C a => a", "(D a, C a) => a -> P a Int",
         "D a => a -> Pack a Int", "(a -> b) -> T a -> T b", "Bool")
MAINS = ("[]", "[]", "[c (P 1 2)]", "c f0 : []", "[c (f0 1)]", "[c (f0 [True, False] 1)]", "[c (d (P 1 True) 3)]",
         "c (make 3 (P 2 1)) : main", "let x = f0 in [c (x [1])]", "[f0 3]", "c (same (P 1 3)) : f0")
CONSTRUCTORS = {"A": 0, "B": 2, "P": 2, "Pack": 2, "Nil": 0, "Cons": 2, "True": 0, "False": 0}
FAMILIES = (("A", "B"), ("P",), ("Pack",), ("Nil", "Cons"), ("True", "False"))
METHODS = ("c", "make", "d", "same")
LOCALS = ("x", "y", "z")


class ProgramMaker:
    def __init__(self, seed):
        self.chance = random.Random(seed)

    def program(self, depth=3):
        """Mostly a program of which the parts have types; the last part may have none."""
        self.values = list(METHODS)
        instances = [self.instance(each) for each in INSTANCES if self.chance.random() < 0.95]
        everything = [*HEAD, *instances]
        names = ["f0", "f1", "f2"][:self.chance.choice((1, 2, 2, 3))]
        while names:
            group = [names.pop(0) for _ in range(min(len(names), self.chance.choice((1, 1, 2))))]
            self.values += group
            everything += self.group(everything, group, depth)
        everything += self.main(everything, depth)
        self.chance.shuffle(everything)
        return tuple(everything)

    def main(self, before, depth):
        """As a group; it has a good type half of the time."""
        for _ in range(self.chance.choice((1, 1, 12))):
            main = parse(f"main = {self.chance.choice(MAINS)}")
            if self.chance.random() < 0.3:
                main = (self.define("main", [], depth),)
            if self.chance.random() < 0.2:
                main += parse(self.chance.choice(("main :: List Int", "main :: List Int", "main :: a", "main :: Int")))
            if isinstance(SlowTypes((*before, *main)).program(), dict):
                break
        return main

    def group(self, before, names, depth):
        """Definitions, with signatures or without, that have types most of the time."""
        for _ in range(30):
            found = []
            for name in names:
                found.append(self.define(name, [], depth))
                if self.chance.random() < 0.3:
                    found.append(self.sign(name))
            program = (*before, *found, ("define", "main", (), ("list", ())))
            result = SlowTypes(program).program()
            if isinstance(result, dict) or "." in result[1] or self.chance.random() < 0.02:
                break
        return found

    def instance(self, declaration):
        """The instance, with good methods mostly."""
        methods = []
        for method, names, body in declaration[5]:
            if self.chance.random() < 0.02:
                body = self.expr([*names], 2)
            methods.append((method, names, body))
        self.chance.shuffle(methods)
        return (*declaration[:5], tuple(methods))

    def sign(self, name):
        return (parse(f"{name} :: {self.chance.choice(SIGNS)}"))[0]

    def define(self, name, bound, depth):
        names = tuple(self.chance.sample(LOCALS, self.chance.choice((0, 1, 1, 2))))
        return ("define", name, names, self.expr([*bound, *names], depth))

    def leaf(self, bound):
        which = self.chance.random()
        if which < 0.5 and bound:
            return ("var", self.chance.choice(bound))
        if which < 0.75:
            return ("var", self.chance.choice(self.values))
        if which < 0.9:
            return ("num", self.chance.randint(0, 3))
        return ("con", self.chance.choice(list(CONSTRUCTORS)))

    def expr(self, bound, depth):
        if depth <= 0:
            return self.leaf(bound)
        make = self.chance.choice((self.leaf, self.apply, self.apply, self.apply, self.build, self.build, self.operator,
                                   self.let, self.let, self.lam, self.case, self.other))
        return make(bound) if make == self.leaf else make(bound, depth - 1)

    def apply(self, bound, depth):
        return ("app", self.leaf(bound) if self.chance.random() < 0.7 else self.expr(bound, depth),
                self.expr(bound, depth))

    def build(self, bound, depth):
        name = self.chance.choice(list(CONSTRUCTORS))
        tree = ("con", name)
        for _ in range(CONSTRUCTORS[name]):
            tree = ("app", tree, self.expr(bound, self.chance.choice((0, depth))))
        return tree

    def operator(self, bound, depth):
        return ("op", self.chance.choice(("+", "<", ":", ":")), self.expr(bound, depth), self.expr(bound, depth))

    def let(self, bound, depth):
        names = self.chance.sample(("x", "y", "g", "h"), self.chance.randint(1, 2))
        inner = [*bound, *names, *names]
        declarations = []
        for name in names:
            if self.chance.random() < 0.3:
                declarations.append(self.sign(name))
            declarations.append(self.define(name, inner, depth))
        return ("let", tuple(declarations), self.expr(inner, depth))

    def lam(self, bound, depth):
        names = tuple(self.chance.sample(LOCALS, self.chance.randint(1, 2)))
        return ("lam", names, self.expr([*bound, *names], depth))

    def case(self, bound, depth):
        examined = self.expr(bound, depth)
        alternatives = []
        which = self.chance.choice((*FAMILIES, (), (1, 2)))
        for name in which[:self.chance.randint(1, 2)]:
            if isinstance(name, int):
                alternatives.append((("pnum", name), self.expr(bound, depth)))
            else:
                names = tuple(self.chance.sample(LOCALS, CONSTRUCTORS[name]))
                alternatives.append((("pcon", name, names), self.expr([*bound, *names], depth)))
        if not alternatives or self.chance.random() < 0.3:
            name = self.chance.choice(LOCALS)
            alternatives.append((("pname", name), self.expr([*bound, name], depth)))
        return ("case", examined, tuple(alternatives))

    def other(self, bound, depth):
        which = self.chance.randint(0, 2)
        if which == 0:
            return ("if", self.expr(bound, depth), self.expr(bound, depth), self.expr(bound, depth))
        if which == 1:
            return ("list", tuple(self.expr(bound, depth) for _ in range(self.chance.randint(0, 2))))
        return ("note", self.chance.randint(0, 9), self.expr(bound, depth))

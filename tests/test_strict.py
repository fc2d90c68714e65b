"""What is evaluated first, and tables: points 6.1 to 6.6."""

import random
import unittest

from needonce.checker import check
from needonce.core import arity
from needonce.simplify import rename_apart, simplify
from needonce.strict import holds_table, lead, make_table
from tests.core_making import CoreMaker
from tests.core_text import program, term
from tests.slow import slow_lead

GLOBALS = program("""
main = (con 0)
zero = (+ 1 2)
one = (lam o1 o1)
two = (lam t1 t2 (+ t2 t1))
three = (lam h1 h2 h3 (f h1))
inner = (+ 1 ((lam i1 i1) 2))
""")
TABLE = (("two", (1, 0)), ("three", (2,)))


class LeadCase(unittest.TestCase):
    def lead(self, text, names, clean, table=TABLE):
        with self.subTest(text):
            found = (tuple(names.split()), clean)
            self.assertEqual(lead(GLOBALS, table, term(text)), found)
            self.assertEqual(slow_lead(GLOBALS, table, term(text)), found)


class LeadTest(LeadCase):
    def test_heads(self):
        self.lead("1", "", True)
        self.lead("(lam a (b a))", "", True)
        self.lead("(con 0)", "", True)
        self.lead("(con 1 a b)", "", True)

    def test_names(self):
        self.lead("a", "a", True)
        self.lead("one", "", True)
        self.lead("two", "", True)
        self.lead("zero", "", False)
        self.lead("inner", "", False)
        self.lead("main", "", False)

    def test_notes(self):
        self.lead("(note 1 a)", "", False)
        self.lead("(note 1 1)", "", False)

    def test_prims(self):
        for sign in ("==", "<", "<="):
            self.lead(f"({sign} a b)", "a b", True)
            self.lead(f"({sign} a 1)", "a", True)
            self.lead(f"({sign} 1 2)", "", True)
        for sign in ("+", "-", "*", "div", "mod"):
            self.lead(f"({sign} a b)", "a b", False)
            self.lead(f"({sign} 1 2)", "", False)
        self.lead("(== (+ a b) c)", "a b", False)
        self.lead("(== (note 1 a) c)", "", False)
        self.lead("(== a (note 1 b))", "a", False)
        self.lead("(== a (+ b c))", "a b c", False)
        self.lead("(+ (== a b) c)", "a b c", False)

    def test_no_name_is_listed_twice(self):
        self.lead("(== a a)", "a", True)
        self.lead("(== (== a b) (== b a))", "a b", True)
        self.lead("(+ a (+ b a))", "a b", False)
        self.lead("(seq s a (== a b))", "a b", True)

    def test_seqs(self):
        self.lead("(seq s a b)", "a b", True)
        self.lead("(seq s a s)", "a", True)
        self.lead("(seq s a (== s b))", "a b", True)
        self.lead("(seq s (+ a b) c)", "a b", False)
        self.lead("(seq s (note 1 a) b)", "", False)
        self.lead("(seq s a (note 1 b))", "a", False)
        self.lead("(seq s (con 0) (seq t b (seq u s c)))", "b c", True)

    def test_cases_without_all_branches(self):
        self.lead("(case a (0 () b) (1 () b))", "a", False)
        self.lead("(case a)", "a", False)
        self.lead("(pick a (0 b) (1 b))", "a", False)
        self.lead("(pick (< a b) (0 c) (1 c))", "a b", False)
        self.lead("(case (+ a b) (0 () c) (1 () c) (else d c))", "a b", False)
        self.lead("(case (note 1 a) (else d b))", "", False)

    def test_defaults(self):
        self.lead("(case a (else d b))", "a b", True)
        self.lead("(case a (else d d))", "a", True)
        self.lead("(case a (0 () b) (else d b))", "a b", True)
        self.lead("(pick a (else d (== b d)))", "a b", True)
        self.lead("(pick a (3 (== b c)) (else d (== b c)))", "a b c", True)
        self.lead("(pick a (3 b) (else d d))", "a", False)

    def test_comparisons_with_both_alternatives(self):
        for sign in ("==", "<", "<="):
            self.lead(f"(case ({sign} a b) (0 () c) (1 () c))", "a b c", True)
            self.lead(f"(case ({sign} a b) (1 () c) (0 () c))", "a b c", True)
        self.lead("(case (== a b) (0 () c) (1 () c) (2 () c))", "a b c", True)
        self.lead("(case (== a b) (0 () c) (1 () c) (2 () 1))", "a b", False)
        self.lead("(case (== a b) (0 () c))", "a b", False)
        self.lead("(case (== a b) (0 () c) (1 (x) c))", "a b", False)
        self.lead("(case (== a b) (0 (x) c) (0 () c) (1 () c))", "a b c", True)
        self.lead("(case (== a b) (1 () c) (2 () c))", "a b", False)
        self.lead("(case (seq s a (== s b)) (0 () c) (1 () c))", "a b", False)

    def test_the_longest_common_beginning(self):
        self.lead("(case a (0 () (== b c)) (else d (== b e)))", "a b", False)
        self.lead("(case a (0 () (== b c)) (else d b))", "a b", False)
        self.lead("(case a (0 () b) (1 () c) (else d b))", "a", False)
        self.lead("(case a (0 () (+ b c)) (else d (== b c)))", "a b c", False)
        self.lead("(case a (0 () (== b a)) (else d (== d b)))", "a b", True)
        self.lead("(case a (0 () (note 1 b)) (else d b))", "a", False)
        self.lead("(case a (0 () (== b c)) (1 () (== b c)) (else d (== b (== c 1))))", "a b c", True)
        self.lead("(case a (0 () (== c b)) (else d (== b c)))", "a", False)

    def test_hidden_names(self):
        self.lead("(case a (1 (x y) x) (else d d))", "a", False)
        self.lead("(case a (1 (x y) (== b x)) (else d (== b c)))", "a b", False)
        self.lead("(case a (1 (x) (seq s x b)) (else d b))", "a", False)
        self.lead("(case a (1 (x) 5) (else d 6))", "a", True)
        self.lead("(let (p q) (q p) p)", "", False)
        self.lead("(let (p (con 1 p)) (== a p))", "a", False)

    def test_lets(self):
        self.lead("(let (x a) x)", "a", True)
        self.lead("(let (x a) b)", "b", True)
        self.lead("(let (x (+ a b)) (== c x))", "c a b", False)
        self.lead("(let (x (== a b)) (== x (== x c)))", "a b c", True)
        self.lead("(let (x 1) (== x a))", "a", True)
        self.lead("(let (x (note 1 2)) (== a x))", "a", False)
        self.lead("(let (x a) (let (y (== x b)) (== b y)))", "b a", True)
        self.lead("(let (x a) (y b) x)", "", False)
        self.lead("(let (x (lam y x)) (== a x))", "a", False)
        self.lead("(let (x (lam y x)) (== a b))", "a b", True)
        self.lead("(let (x (== a b)) (seq s a x))", "a b", True)

    def test_what_is_known_at_the_let(self):
        self.lead("(seq s a (let (x (== s b)) x))", "a b", True)
        self.lead("(seq s a (let (x (== a b)) (== b x)))", "a b", True)
        self.lead("(case a (1 (x) (let (y x) (== b y))) (else d (== b c)))", "a b", False)

    def test_partial_calls(self):
        self.lead("(two a)", "", True)
        self.lead("(three a b)", "", True)
        self.lead("(== (two a) b)", "b", True)

    def test_full_calls(self):
        self.lead("(two a b)", "b a", False)
        self.lead("(two a b c)", "b a", False)
        self.lead("(two a a)", "a", False)
        self.lead("(two a (note 1 b))", "", False)
        self.lead("(two (note 1 a) b)", "b", False)
        self.lead("(two (+ a c) (== b a))", "b a c", False)
        self.lead("(three a b c)", "c", False)
        self.lead("(three a b (two a b))", "b a", False)
        self.lead("(one a)", "", False)
        self.lead("(two a b)", "", False, (("one", (0,)),))
        self.lead("(one a)", "a", False, (("one", (0,)),))

    def test_other_calls(self):
        self.lead("(f a)", "f", False)
        self.lead("(f a b c)", "f", False)
        self.lead("(zero a)", "", False)
        self.lead("((lam x x) a)", "", False)
        self.lead("((seq s a f) b)", "a f", False)
        self.lead("((note 1 f) a)", "", False)
        self.lead("(let (g f) (g a))", "f", False)
        self.lead("(let (g two) (g a b))", "", False)
        self.lead("(seq g a (g b))", "a", False)
        self.lead("((case a (else d f)) b)", "a f", False)
        self.lead("(5 a)", "", False)

    def test_names_that_look_like_something_else(self):
        c = ("var", "c")
        both = ((0, (), c), (1, (), c))
        for name in ("==", "<", "prim", "num", "lam"):
            self.assertEqual(lead(GLOBALS, TABLE, ("case", ("var", name), both, None)), ((name,), False))
            self.assertEqual(lead(GLOBALS, TABLE, ("case", ("var", name), both, (name + "'", c))), ((name, "c"), True))
        self.assertEqual(lead(GLOBALS, TABLE, ("case", ("num", 1), both, None)), ((), False))
        self.assertEqual(lead(GLOBALS, TABLE, ("case", ("lam", "==", c), both, None)), ((), False))

    def test_arguments_stay(self):
        table, each = (("two", (1, 0)),), term("(let (x (two a b)) (== x a))")
        self.assertEqual(lead(GLOBALS, table, each), (("b", "a"), False))
        self.assertEqual((table, each), ((("two", (1, 0)),), term("(let (x (two a b)) (== x a))")))


class ChanceTest(unittest.TestCase):
    def test_another_reading(self):
        kinds = set()
        for seed in range(500):
            chance = random.Random(seed)
            whole = CoreMaker(seed).program(seed % 7)
            table = make_table(whole)
            wild = tuple((name, tuple(chance.sample(range(arity(each)), chance.randint(1, arity(each)))))
                         for name, each in whole[0] if arity(each) > 0)
            for _, each in whole[0]:
                while each[0] == "lam":
                    each = each[2]
                for some in (table, wild, ()):
                    found = lead(whole, some, each)
                    kinds.add((len(found[0]), found[1]))
                    self.assertEqual(found, slow_lead(whole, some, each))
        self.assertTrue({(0, True), (1, True), (2, True), (1, False), (2, False)} <= kinds)


def slow_holds(whole, table):
    """Another reading of point 6.5."""
    terms = dict(whole[0])
    names = [name for name, _ in table]
    if len(set(names)) < len(names) or not set(names) <= set(terms):
        return False
    for at, (name, indexes) in enumerate(table):
        parameters, body = [], terms[name]
        while body[0] == "lam":
            parameters.append(body[1])
            body = body[2]
        if not indexes or len(set(indexes)) < len(indexes) or not set(indexes) <= set(range(len(parameters))):
            return False
        if slow_lead(whole, table[:at], body)[0][:len(indexes)] != tuple(parameters[index] for index in indexes):
            return False
    return True


class HoldsTest(unittest.TestCase):
    WHOLE = program("""
main = (con 0)
add = (lam a1 a2 (+ a2 a1))
three = (lam h1 h2 h3 (case (< h3 h1) (0 () h2) (1 () (+ h2 1))))
late = (lam l1 l2 (add l1 l2))
self = (lam s1 (self s1))
wrap = (lam w1 (con 1 w1 w1))
again = (lam g1 g2 (pick g1 (0 g2) (else gd (again (- gd 1) g2))))
""")

    def holds(self, *table):
        with self.subTest(table):
            self.assertIs(holds_table(self.WHOLE, table), True)
            self.assertTrue(slow_holds(self.WHOLE, table))

    def holds_not(self, *table):
        with self.subTest(table):
            self.assertIs(holds_table(self.WHOLE, table), False)
            self.assertFalse(slow_holds(self.WHOLE, table))

    def test_tables_that_hold(self):
        self.holds()
        self.holds(("add", (1, 0)))
        self.holds(("add", (1,)))
        self.holds(("three", (2, 0, 1)))
        self.holds(("three", (2, 0)), ("add", (1, 0)))
        self.holds(("again", (0,)))

    def test_names(self):
        self.holds_not(("nobody", (0,)))
        self.holds_not(("", (0,)))
        self.holds_not(("add", (1,)), ("add", (1, 0)))
        self.holds_not(("add", (1,)), ("add", (1,)))
        self.holds_not(("add", (1,)), ("nobody", (0,)))

    def test_indexes(self):
        self.holds_not(("add", ()))
        self.holds_not(("add", (1, 1)))
        self.holds_not(("add", (1, 0, 2)))
        self.holds_not(("add", (2,)))
        self.holds_not(("add", (-1,)))
        self.holds_not(("add", (-1, 0)))
        self.holds_not(("main", (0,)))
        self.holds_not(("main", ()))

    def test_the_lead(self):
        self.holds_not(("add", (0,)))
        self.holds_not(("add", (0, 1)))
        self.holds_not(("three", (2, 1)))
        self.holds_not(("three", (0, 2, 1)))
        self.holds_not(("self", (0,)))
        self.holds_not(("wrap", (0,)))
        self.holds_not(("again", (0, 1)))
        self.holds_not(("add", (1, 0)), ("wrap", (0,)))

    def test_pairs_that_rely_on_others(self):
        self.holds(("add", (1, 0)), ("late", (1, 0)))
        self.holds(("add", (1,)), ("late", (1,)))
        self.holds_not(("late", (1, 0)))
        self.holds_not(("late", (1, 0)), ("add", (1, 0)))
        self.holds_not(("add", (1,)), ("late", (1, 0)))
        self.holds_not(("add", (1, 0)), ("late", (0, 1)))

    def test_by_chance(self):
        found = {True: 0, False: 0}
        for seed in range(400):
            chance = random.Random(seed)
            whole = CoreMaker(seed).program(seed % 6)
            table = list(make_table(whole))
            self.assertTrue(holds_table(whole, tuple(table)))
            chance.shuffle(table)
            arities = {name: arity(each) for name, each in whole[0]}
            table = [(name, indexes[:chance.randint(1, 3)]) if chance.random() < 0.7 else
                     (name, tuple(chance.sample(range(arities[name]), chance.randint(1, arities[name]))))
                     for name, indexes in table]
            found[holds_table(whole, tuple(table))] += len(table) > 0
            self.assertEqual(holds_table(whole, tuple(table)), slow_holds(whole, tuple(table)))
        self.assertGreater(min(found.values()), 4)


class MakeTableTest(unittest.TestCase):
    def table(self, text, *expected):
        with self.subTest(text):
            whole = program(text)
            self.assertEqual(make_table(whole), expected)
            self.assertTrue(holds_table(whole, expected))

    def test_all_names_of_the_lead(self):
        self.table("main = (con 0)")
        self.table("main = (con 0)\nf = (lam x y z (+ z x))", ("f", (2, 0)))
        self.table("main = (con 0)\nf = (lam x y (== (+ y x) x))", ("f", (1, 0)))
        self.table("main = (con 0)\nf = (lam x (con 0 x))\ng = (lam a (note 1 a))\nh = (lam b (h b))")
        self.table("main = (+ zero 1)\nzero = 0")

    def test_in_the_order_in_which_they_are_found(self):
        self.table("main = (con 0)\nf = (lam x (g x x))\ng = (lam a b (+ a b))", ("g", (0, 1)), ("f", (0,)))
        self.table("main = (con 0)\ng = (lam a b (+ a b))\nf = (lam x (g x x))", ("g", (0, 1)), ("f", (0,)))
        self.table("h = (lam c (f c))\nf = (lam x (g x x))\ng = (lam a b (+ a b))\nk = (lam d (h d))\nmain = (con 0)\n"
                   "m = (lam e (k e))", ("g", (0, 1)), ("f", (0,)), ("h", (0,)), ("k", (0,)), ("m", (0,)))
        self.table("k = (lam d (h d))\nh = (lam c (f c))\nf = (lam x y (+ x y))\nmain = (con 0)\ng = (lam a b (+ a b))",
                   ("f", (0, 1)), ("g", (0, 1)))
        self.table("k = (lam d (h d))\nh = (lam c (f c c))\nf = (lam x y (+ x y))\nmain = (con 0)\ng = (lam a b (+ a b))",
                   ("f", (0, 1)), ("g", (0, 1)), ("h", (0,)), ("k", (0,)))

    def test_definitions_that_need_each_other(self):
        self.table("main = (con 0)\nev = (lam a b (pick a (0 b) (else c (od (- c 1) b))))\n"
                   "od = (lam d e (pick d (0 (+ e 1)) (else f (ev (- f 1) e))))", ("ev", (0,)), ("od", (0,)))
        self.table("main = (con 0)\nev = (lam a (od a))\nod = (lam b (ev b))")
        self.table("main = (con 0)\nsum = (lam xs acc (case xs (0 () acc) (1 (x rest) (sum rest (+ acc x)))))", ("sum", (0,)))

    def test_a_pair_stays_as_it_was_found(self):
        """With the pair for g, the lead of f would have one name more; but f has its pair already."""
        self.table("main = (con 0)\nf = (lam x y (seq s x (g y)))\ng = (lam a (+ a 1))", ("f", (0,)), ("g", (0,)))

    def test_the_prelude(self):
        found = dict(make_table(simplify(check("main = zipWith (\\x y -> x) (take 1 [2]) (upto (sum []) 3)"))))
        self.assertEqual(found, {"sum": (0,), "take": (0,), "zipWith": (1,), "upto": (1, 0)})

    def test_arguments_stay(self):
        whole = program("main = (con 0)\nf = (lam x y z (+ z x))")
        make_table(whole)
        self.assertEqual(whole, program("main = (con 0)\nf = (lam x y z (+ z x))"))
        self.assertEqual(rename_apart(whole), whole)


class DeepTest(unittest.TestCase):
    def test_deep_terms(self):
        a, b = ("var", "a"), ("var", "b")
        both = ("prim", "==", a, b)
        places = ((lambda e, k: ("prim", "==", e, b), ("a", "b")), (lambda e, k: ("prim", "==", b, e), ("b", "a")),
                  (lambda e, k: ("seq", f"x{k}", e, b), ("a", "b")), (lambda e, k: ("seq", f"x{k}", b, e), ("b", "a")),
                  (lambda e, k: ("let", ((f"x{k}", e),), ("var", f"x{k}")), ("a",)),
                  (lambda e, k: ("let", ((f"x{k}", b),), e), ("a",)),
                  (lambda e, k: ("pick", e, (), (f"x{k}", b)), ("a", "b")),
                  (lambda e, k: ("pick", a, ((1, e),), (f"x{k}", both)), None),
                  (lambda e, k: ("case", b, (), (f"x{k}", e)), ("b", "a")),
                  (lambda e, k: ("app", ("var", "two"), e), ()),
                  (lambda e, k: ("app", ("app", ("var", "two"), b), e), ("a", "b")))
        for place, names in places:
            deep = a
            for k in range(200):
                deep = place(deep, k)
            with self.subTest(place(a, 0)):
                found, _ = lead(GLOBALS, TABLE, deep)
                self.assertEqual(found, ("a",) if names is None else names)
                self.assertIs(holds_table(((("f", ("lam", "a", ("lam", "b", deep))), *GLOBALS[0]), "main"), ()), True)


if __name__ == "__main__":
    unittest.main()

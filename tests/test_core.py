"""Core terms, names, programs and sizes: points 5.1 to 5.6."""

import unittest

from needonce.core import arity, bound_names, check_program, free_names, is_apart, is_term, program_size, size
from needonce.errors import BadCore, CoreError, TwiceBound, UnboundName
from tests.core_making import CoreMaker
from tests.core_text import program, term
from tests.slow import count, free, parts

X, ONE = ("var", "x"), ("num", 1)

GOOD = (
    ONE, X, ("app", X, ONE), ("lam", "x", X), ("let", (("x", X),), X), ("let", (("x", ONE), ("y", X)), X),
    ("seq", "x", ONE, X), ("con", 0, ()), ("con", 7, (X, ONE)), ("case", X, (), None),
    ("case", X, ((0, (), ONE), (1, ("x", "y"), X)), None), ("case", X, ((1, ("x",), X),), ("x", X)),
    ("pick", X, (), None), ("pick", X, ((1, ONE), (-1, X)), None), ("pick", X, (), ("x", X)),
    ("prim", "+", X, ONE), ("note", 3, X),
)

# For each kind of term: a term with a hole for each of its parts, filled with what is none.
BOOLEAN, FLOAT = True, 1.0
NO_TERMS = (None, 1, "x", [], ["num", 1], (), ("num",), ("var",), ("foo", 1), ("num", 1, 1), ("NUM", 1), (1, "num"),
            (["num"], 1), ("con", 0), (("num", 1),), BOOLEAN, FLOAT, {}, {"num": 1})
NO_NAMES = ("", "a b", "a\n", "a" * 81, " ", "a%b", "\x7f", "\u00e9", None, 1, ("x",), ["x"], BOOLEAN, b"x")
NO_NUMBERS = (10 ** 15 + 1, -10 ** 15 - 1, True, False, 1.0, "1", None, (1,), [1])
NO_TAGS = (-1, 1001, True, False, 1.0, "1", None, (1,), [1])
NO_NOTES = (-1, 10 ** 12 + 1, True, False, 1.0, "1", None, (1,), [1])
NO_SIGNS = ("", "++", ">", "!=", "=", ":", "and", " +", None, 1, ("+",), ["+"])
NO_ROWS = (None, 1, "x", "xy", [], ["x"], {})


class IsTermTest(unittest.TestCase):
    def bad(self, make, things):
        for thing in things:
            with self.subTest(repr(make(thing))[:100]):
                self.assertIs(is_term(make(thing)), False)

    def good(self, make, things):
        for thing in things:
            with self.subTest(repr(make(thing))[:100]):
                self.assertIs(is_term(make(thing)), True)

    def test_each_kind(self):
        for each in GOOD:
            with self.subTest(each):
                self.assertIs(is_term(each), True)
                self.assertIs(is_term(list(each)), False)
                self.assertIs(is_term((*each, ONE)), False)
                self.assertIs(is_term(each[:-1]), False)
                self.assertIs(is_term(("foo", *each[1:])), False)

    def test_things_that_are_no_terms(self):
        self.bad(lambda thing: thing, NO_TERMS)

    def test_terms_within_terms(self):
        places = (lambda e: ("app", e, X), lambda e: ("app", X, e), lambda e: ("lam", "x", e),
                  lambda e: ("let", (("x", e),), X), lambda e: ("let", (("x", X), ("y", e)), X),
                  lambda e: ("let", (("x", X),), e), lambda e: ("seq", "x", e, X), lambda e: ("seq", "x", X, e),
                  lambda e: ("con", 0, (e,)), lambda e: ("con", 0, (X, e)), lambda e: ("case", e, (), None),
                  lambda e: ("case", X, ((0, (), e),), None), lambda e: ("case", X, ((0, (), X), (1, ("x",), e)), None),
                  lambda e: ("case", X, (), ("x", e)), lambda e: ("pick", e, (), None),
                  lambda e: ("pick", X, ((0, e),), None), lambda e: ("pick", X, ((0, X), (1, e)), None),
                  lambda e: ("pick", X, (), ("x", e)), lambda e: ("prim", "+", e, X), lambda e: ("prim", "+", X, e),
                  lambda e: ("note", 1, e))
        for place in places:
            self.bad(place, NO_TERMS)
            self.good(place, GOOD)
            self.good(lambda e: ("app", ("lam", "y", place(e)), X), GOOD[:3])
            self.bad(lambda e: ("app", ("lam", "y", place(e)), X), NO_TERMS[:6])

    def test_names(self):
        names = ("x", "X", "0", "a.b", "C.Int", "+", "!", "~", "a" * 80, "x'", "(", '"', "&", "$")
        for make in (lambda x: ("var", x), lambda x: ("lam", x, ONE), lambda x: ("let", ((x, ONE),), ONE),
                     lambda x: ("let", (("z", ONE), (x, ONE)), ONE), lambda x: ("seq", x, ONE, ONE),
                     lambda x: ("case", ONE, ((0, (x,), ONE),), None), lambda x: ("case", ONE, ((0, ("z", x), ONE),), None),
                     lambda x: ("case", ONE, (), (x, ONE)), lambda x: ("pick", ONE, (), (x, ONE))):
            self.good(make, names)
            self.bad(make, NO_NAMES)

    def test_numbers(self):
        for make in (lambda k: ("num", k), lambda k: ("pick", X, ((k, ONE),), None)):
            self.good(make, (0, 1, -1, 10 ** 15, -10 ** 15))
            self.bad(make, NO_NUMBERS)

    def test_tags(self):
        for make in (lambda k: ("con", k, ()), lambda k: ("case", X, ((k, (), ONE),), None)):
            self.good(make, (0, 1, 1000))
            self.bad(make, NO_TAGS)

    def test_notes(self):
        self.good(lambda k: ("note", k, X), (0, 1, 10 ** 12))
        self.bad(lambda k: ("note", k, X), NO_NOTES)

    def test_signs(self):
        self.good(lambda sign: ("prim", sign, X, X), ("+", "-", "*", "div", "mod", "==", "<", "<="))
        self.bad(lambda sign: ("prim", sign, X, X), NO_SIGNS)

    def test_rows(self):
        for make in (lambda row: ("let", row, X), lambda row: ("con", 0, row), lambda row: ("case", X, row, None),
                     lambda row: ("pick", X, row, None), lambda row: ("case", X, ((0, row, X),), None)):
            self.bad(make, NO_ROWS)
        self.bad(lambda row: ("let", (row,), X), ((), ("x",), ("x", X, X), ["x", X], None, "xy", X))
        self.bad(lambda row: ("case", X, (row,), None), ((), (0, ()), (0, (), X, X), [0, (), X], None, (0, X), ((), 0, X)))
        self.bad(lambda row: ("case", X, ((0, row, X),), None), (["x"], "x", ("x", "x"), ("x", "y", "x"), ("x", 1)))
        self.bad(lambda row: ("pick", X, (row,), None), ((), (0,), (0, X, X), [0, X], None, X))
        for kind in ("case", "pick"):
            self.bad(lambda row: (kind, X, (), row), ((), ("x",), ("x", X, X), ["x", X], X, False, 0, "x"))

    def test_names_and_numbers_that_stand_there_twice(self):
        self.assertFalse(is_term(("let", (("x", ONE), ("x", ONE)), X)))
        self.assertFalse(is_term(("let", (("x", ONE), ("y", ONE), ("x", X)), X)))
        self.assertFalse(is_term(("case", X, ((0, ("x", "x"), X),), None)))
        self.assertTrue(is_term(("case", X, ((0, ("x",), X), (1, ("x",), X), (0, ("x",), X)), ("x", X))))
        self.assertFalse(is_term(("pick", X, ((1, X), (1, X)), None)))
        self.assertFalse(is_term(("pick", X, ((1, X), (2, X), (1, ONE)), None)))
        self.assertTrue(is_term(("lam", "x", ("lam", "x", ("let", (("x", X),), X)))))

    def test_what_may_be_empty(self):
        self.assertFalse(is_term(("let", (), X)))
        self.assertTrue(is_term(("con", 0, ())))
        for kind in ("case", "pick"):
            self.assertTrue(is_term((kind, X, (), None)))
            self.assertTrue(is_term((kind, X, (), ("x", X))))

    def test_terms_by_chance(self):
        for seed in range(100):
            for _, each in CoreMaker(seed, seed % 2 == 0).program(5)[0]:
                self.assertTrue(is_term(each))


class NamesTest(unittest.TestCase):
    def free(self, text, names):
        with self.subTest(text):
            self.assertEqual(free_names(term(text)), sorted(names.split()))

    def bound(self, text, names):
        with self.subTest(text):
            self.assertEqual(bound_names(term(text)), names.split())

    def test_what_binds_in_which_parts(self):
        self.free("1", "")
        self.free("x", "x")
        self.free("(f (g x) f)", "f g x")
        self.free("(lam x (x y))", "y")
        self.free("((lam x x) x)", "x")
        self.free("(let (x (x y)) (y (x z)) (x y u))", "z u")
        self.free("((let (x 1) x) x)", "x")
        self.free("(seq x (x y) (x z))", "x y z")
        self.free("(seq x y x)", "y")
        self.free("(con 0 a b)", "a b")
        self.free("(case (x y) (0 (x) (x y)) (1 (y z) (x y z)) (else u (u z)))", "x y z")
        self.free("(case a (0 (x) (x u)) (else u u))", "a u")
        self.free("(case a (else u (u v)))", "a v")
        self.free("(pick (x y) (0 x) (1 z) (else x (x u)))", "x y z u")
        self.free("(+ a b)", "a b")
        self.free("(note 1 a)", "a")

    def test_inner_bindings_hide_outer_ones(self):
        self.free("(lam x ((lam x x) x))", "")
        self.free("(let (x (lam x (x y))) (seq y x (x y)))", "y")
        self.free("(seq x x (seq x x x))", "x")
        self.free("(lam x (pick 1 (2 (lam y x)) (else y (x y))))", "")
        self.free("((lam x (lam x x)) x)", "x")

    def test_ascending_and_without_duplicates(self):
        self.free("(b a C b' a.1 _ b a10 a2 a)", "b a C b' a.1 _ a10 a2")

    def test_bound_names(self):
        self.bound("(+ x (f 1))", "")
        self.bound("(lam x y x)", "x y")
        self.bound("(let (x (lam a a)) (y (lam b b)) (lam c c))", "x y a b c")
        self.bound("(seq x (lam a a) (lam b b))", "x a b")
        self.bound("(con 0 (lam a a) (lam b b))", "a b")
        self.bound("(case (lam e e) (0 (x y) (lam a a)) (1 () (lam b b)) (2 (z) 1) (else d (lam c c)))",
                   "x y z d e a b c")
        self.bound("(pick (lam e e) (0 (lam a a)) (1 (lam b b)) (else d (lam c c)))", "d e a b c")
        self.bound("(pick (lam e e) (0 (lam a a)))", "e a")
        self.bound("((lam a a) (lam b b))", "a b")
        self.bound("(+ (lam a a) (lam b b))", "a b")
        self.bound("(note 1 (lam a a))", "a")

    def test_bound_names_with_duplicates(self):
        self.bound("(lam x (lam x ((lam y x) (lam x x))))", "x x y x")
        self.bound("(case x (0 (x) x) (1 (x) x) (else x x))", "x x x")
        self.bound("(let (y (let (x 1) x)) (x (let (y 1) y)) x)", "y x x y")

    def test_by_chance(self):
        for seed in range(200):
            for _, each in CoreMaker(seed, False).program(5)[0]:
                self.assertEqual(free_names(each), sorted(free(each)))
                names = [name for bound, _ in parts(each) for name in bound]
                self.assertEqual(set(bound_names(each)) >= set(names), True)


class ApartTest(unittest.TestCase):
    def apart(self, text, expected=True):
        with self.subTest(text):
            self.assertIs(is_apart(program(text)), expected)

    def test_apart(self):
        self.apart("main = (lam x (let (y 1) (z 2) (seq u x (case u (0 (v w) v) (else d d)))))\nf = (lam a a)")
        self.apart("main = (f x x x)\nf = x")
        self.apart("f = 1")
        self.assertIs(is_apart(((), "main")), True)

    def test_not_apart(self):
        for text in ("(lam x x x)", "((lam x x) (lam x x))", "(lam x (let (x 1) x))", "(let (x 1) (seq x 1 1))",
                     "(seq x 1 (case 1 (0 (x) 1)))", "(case 1 (0 (x) 1) (1 (x) 1))", "(case 1 (0 (x) 1) (else x 1))",
                     "(pick 1 (1 (lam x x)) (else x 1))", "(lam main 1)", "(lam f 1)", "(let (main 1) main)",
                     "(seq f 1 1)", "(case 1 (0 (main) 1))", "(pick 1 (else main 1))", "(lam y 1)"):
            self.apart(f"main = {text}\nf = (lam y 1)", False)
        self.apart("main = 1\nf = (lam y 1)\ng = (lam y 1)", False)
        self.apart("main = (lam f 1)\nf = 1", False)
        self.apart("f = 1\nmain = (lam f 1)", False)
        self.apart("f = 1\nf = 2", False)


class SizeTest(unittest.TestCase):
    def test_size(self):
        for text, expected in (("1", 1), ("x", 1), ("(con 0)", 1), ("(f x)", 3), ("(lam x y x)", 3), ("(note 1 x)", 2),
                               ("(let (x 1) (y x) (x y))", 6), ("(seq x 1 x)", 3), ("(con 0 1 (con 0 2))", 4),
                               ("(case x (0 () 1) (1 (a b) (f a)) (else d d))", 7), ("(case x)", 2),
                               ("(pick x (0 1) (else d (note 1 d)))", 5), ("(+ 1 (* 2 x))", 5)):
            self.assertEqual(size(term(text)), expected, text)

    def test_program_size(self):
        self.assertEqual(program_size(program("main = (f 1)\nf = (lam x x)\ng = 1")), 6)
        self.assertEqual(program_size(((), "main")), 0)

    def test_by_chance(self):
        for seed in range(100):
            made = CoreMaker(seed, False).program(5)
            self.assertEqual(program_size(made), sum(count(each) for _, each in made[0]))

    def test_arity(self):
        for text, expected in (("1", 0), ("(lam x x)", 1), ("(lam x y (x y))", 2), ("(lam x ((lam y y) x))", 1),
                               ("(let (f (lam x x)) f)", 0), ("(note 1 (lam x x))", 0), ("(lam x x x (con 0))", 3)):
            self.assertEqual(arity(term(text)), expected, text)


class CheckProgramTest(unittest.TestCase):
    def bad(self, made, error_class, name):
        with self.subTest(made):
            with self.assertRaises(error_class) as held:
                check_program(made)
            self.assertEqual(held.exception.name, name)
            self.assertIsInstance(held.exception, CoreError)

    def test_good(self):
        self.assertIsNone(check_program(program("main = (f main g)\nf = (lam x (g x))\ng = 1")))
        self.assertIsNone(check_program(program("main = main")))
        for seed in range(50):
            self.assertIsNone(check_program(CoreMaker(seed, False).program()))

    def test_a_definition_that_is_no_term(self):
        for thing in NO_TERMS:
            self.bad(((("main", ONE), ("f", thing)), "main"), BadCore, "f")
        self.bad(((("main", ("num", True)),), "main"), BadCore, "main")

    def test_a_free_name_that_is_not_global(self):
        self.bad(program("main = x"), UnboundName, "x")
        self.bad(program("main = (z (lam x y))"), UnboundName, "y")
        self.bad(program("main = (lam x (f x))\nf = x"), UnboundName, "x")

    def test_a_name_that_is_defined_twice(self):
        self.bad(program("main = 1\nf = 1\nf = 2"), TwiceBound, "f")
        self.bad(program("main = 1\nmain = 1"), TwiceBound, "main")
        self.bad(program("g = 1\nf = 1\nmain = 1\nf = 2\ng = 3"), TwiceBound, "f")

    def test_main(self):
        self.bad(program("f = 1"), UnboundName, "main")
        self.bad(((("main", ONE),), "start"), UnboundName, "start")
        self.bad(((), "main"), UnboundName, "main")
        self.assertIsNone(check_program(((("start", ONE),), "start")))

    def test_the_order_of_the_errors(self):
        bad = ("num", "1")
        self.bad(((("f", X), ("g", bad)), "main"), UnboundName, "x")
        self.bad(((("g", bad), ("f", X)), "main"), BadCore, "g")
        self.bad(((("g", bad), ("f", bad)), "main"), BadCore, "g")
        self.bad(((("f", ("app", X, bad)),), "main"), BadCore, "f")
        self.bad(((("f", ONE), ("f", X)), "main"), UnboundName, "x")
        self.bad(((("f", ONE), ("f", bad)), "main"), BadCore, "f")
        self.bad(((("f", ONE), ("f", ONE)), "main"), TwiceBound, "f")
        self.bad(((("f", ("app", ("var", "z"), ("var", "y"))), ("g", X)), "main"), UnboundName, "y")
        self.bad(((("f", ("var", "later")), ("f", bad)), "main"), UnboundName, "later")
        self.bad(((("f", ("var", "g")), ("g", ("var", "h"))), "main"), UnboundName, "h")


class DeepTest(unittest.TestCase):
    def test_deep_terms(self):
        places = (lambda e, k: ("app", e, ONE), lambda e, k: ("app", ONE, e), lambda e, k: ("lam", f"x{k}", e),
                  lambda e, k: ("let", ((f"x{k}", e),), ONE), lambda e, k: ("let", ((f"x{k}", ONE),), e),
                  lambda e, k: ("seq", f"x{k}", e, ONE), lambda e, k: ("seq", f"x{k}", ONE, e),
                  lambda e, k: ("con", 1, (ONE, e)), lambda e, k: ("case", e, (), None),
                  lambda e, k: ("case", ONE, ((0, (f"x{k}",), e),), None), lambda e, k: ("case", ONE, (), (f"x{k}", e)),
                  lambda e, k: ("pick", e, (), None), lambda e, k: ("pick", ONE, ((1, e),), None),
                  lambda e, k: ("pick", ONE, (), (f"x{k}", e)), lambda e, k: ("prim", "+", e, ONE),
                  lambda e, k: ("prim", "+", ONE, e), lambda e, k: ("note", 1, e))
        for place in places:
            deep, wrong = ("var", "y"), ("var", "")
            for k in range(200):
                deep, wrong = place(deep, k), place(wrong, k)
            with self.subTest(place(ONE, 0)):
                self.assertIs(is_term(deep), True)
                self.assertIs(is_term(wrong), False)
                self.assertEqual(free_names(deep), ["y"])
                self.assertIn(len(bound_names(deep)), (0, 200))
                self.assertGreater(size(deep), 200)
                self.assertTrue(is_apart(((("y", deep),), "y")))
                self.assertIsNone(check_program(((("y", deep),), "y")))


if __name__ == "__main__":
    unittest.main()

"""The normal form: points 7.4 to 7.7."""

import random
import unittest

from needonce.checker import check
from needonce.core import bound_names, check_program, program_size
from needonce.lift import core_of_lifted, lift
from needonce.meaning import shown
from needonce.normal import core_of, is_normal, normal_form
from needonce.simplify import simplify
from tests.code_making import NormalMaker, broken
from tests.core_making import CoreMaker
from tests.core_text import program, term
from tests.slow import pages
from tests.slow_code import slow_is_normal, unnormal

FUNCTIONS = """
main = (con 0)
zero = 0
one = (lam o1 o1)
two = (lam t1 t2 t1)
three = (lam h1 h2 h3 h1)
"""


def in_order(body):
    """The body in which the names that begin with "n." are n1, n2 and so on, in the order in which they stand."""
    found = {}

    def rename(thing):
        if isinstance(thing, tuple):
            return tuple(rename(part) for part in thing)
        if isinstance(thing, str) and thing.startswith("n."):
            return found.setdefault(thing, f"n{len(found) + 1}")
        return thing

    return rename(body)


def atom(thing):
    return ("atom", thing)


def later(body):
    return ("later", body)


class NormalCase(unittest.TestCase):
    def becomes(self, text, expected):
        """The body of a function with the params a, b, f."""
        whole = program(f"{FUNCTIONS}\nuse = (lam a b f {text})")
        lifted = (tuple(functions_of(whole)), "main")
        normal = normal_form(lifted)
        with self.subTest(text):
            self.assertEqual([(name, params) for name, params, _ in normal[0]],
                             [(name, params) for name, params, _ in lifted[0]])
            self.assertEqual(in_order(normal[0][-1][2]), expected)
            self.assertTrue(is_normal(normal))
            self.assertEqual(unnormal(normal, lifted), lifted)
            self.assertEqual(normal[1], "main")


def functions_of(whole):
    for name, each in whole[0]:
        params = []
        while each[0] == "lam":
            params.append(each[1])
            each = each[2]
        yield (name, tuple(params), each)


class AtomTest(NormalCase):
    def test_atoms(self):
        self.becomes("3", atom(3))
        self.becomes("-1000000000000000", atom(-10 ** 15))
        self.becomes("a", atom("a"))
        self.becomes("main", atom("main"))
        self.becomes("two", atom("two"))


class CallTest(NormalCase):
    def test_arguments_that_are_atoms(self):
        self.becomes("(f a)", ("call", "f", ("a",)))
        self.becomes("(f a 3 two b)", ("call", "f", ("a", 3, "two", "b")))
        self.becomes("(two a b)", ("call", "two", ("a", "b")))
        self.becomes("(two a)", ("call", "two", ("a",)))
        self.becomes("(zero 1)", ("call", "zero", (1,)))

    def test_arguments_that_are_none(self):
        self.becomes("(f (a b))", ("let", (("n1", later(("call", "a", ("b",)))),), ("call", "f", ("n1",))))
        self.becomes("(f a (note 1 b) 2 (pick a (else x x)))",
                     ("let", (("n1", later(("note", 1, atom("b")))), ("n2",
                                                                      later(("pick", atom("a"), (),
                                                                             ("x", atom("x")))))),
                      ("call", "f", ("a", "n1", 2, "n2"))))
        self.becomes("(one (f (a b)))", ("let", (("n1", later(("let", (("n2", later(("call", "a", ("b",)))),),
                                                               ("call", "f", ("n2",))))),), ("call", "one", ("n1",))))

    def test_arguments_that_are_cons(self):
        self.becomes("(f (con 7))", ("let", (("n1", ("con", 7, ())),), ("call", "f", ("n1",))))
        self.becomes("(f (con 1 a 2))", ("let", (("n1", ("con", 1, ("a", 2))),), ("call", "f", ("n1",))))
        self.becomes("(f (con 1 (con 2 (a b)) 2))",
                     ("let", (("n1", ("con", 1, ("n2", 2))), ("n2", ("con", 2, ("n3",))),
                              ("n3", later(("call", "a", ("b",))))), ("call", "f", ("n1",))))

    def test_arguments_that_are_partial_calls(self):
        self.becomes("(f (two a))", ("let", (("n1", ("part", "two", ("a",))),), ("call", "f", ("n1",))))
        self.becomes("(f (three a 1))", ("let", (("n1", ("part", "three", ("a", 1))),), ("call", "f", ("n1",))))
        self.becomes("(f (two (a b)))",
                     ("let", (("n1", ("part", "two", ("n2",))), ("n2", later(("call", "a", ("b",))))),
                      ("call", "f", ("n1",))))
        self.becomes("(f (three (two (con 1 a))))",
                     ("let", (("n1", ("part", "three", ("n2",))), ("n2", ("part", "two", ("n3",))),
                              ("n3", ("con", 1, ("a",)))),
                      ("call", "f", ("n1",))))
        self.becomes("(f (one a))", ("let", (("n1", later(("call", "one", ("a",)))),), ("call", "f", ("n1",))))
        self.becomes("(f (two a b))", ("let", (("n1", later(("call", "two", ("a", "b")))),), ("call", "f", ("n1",))))
        self.becomes("(f (zero a))", ("let", (("n1", later(("call", "zero", ("a",)))),), ("call", "f", ("n1",))))

    def test_function_parts_that_are_no_vars(self):
        self.becomes("((note 1 f) a)", ("seq", "n1", ("note", 1, atom("f")), ("call", "n1", ("a",))))
        self.becomes("((case a (else x f)) a 1)",
                     ("seq", "n1", ("case", atom("a"), (), ("x", atom("f"))), ("call", "n1", ("a", 1))))
        self.becomes("((note 1 f) (a b))",
                     ("let", (("n1", later(("call", "a", ("b",)))),),
                      ("seq", "n2", ("note", 1, atom("f")), ("call", "n2", ("n1",)))))
        self.becomes("((note 1 (f (a b))) (con 1))",
                     ("let", (("n1", ("con", 1, ())),),
                      ("seq", "n2", ("note", 1, ("let", (("n3", later(("call", "a", ("b",)))),),
                                                 ("call", "f", ("n3",)))),
                       ("call", "n2", ("n1",)))))
        self.becomes("(f ((note 1 two) a))", ("let", (("n1", later(("seq", "n2", ("note", 1, atom("two")),
                                                                    ("call", "n2", ("a",))))),),
                                              ("call", "f", ("n1",))))
        self.becomes("((let (x f) x) a)", ("seq", "n1", ("let", (("x", later(atom("f"))),), atom("x")),
                                           ("call", "n1", ("a",))))


class ConTest(NormalCase):
    def test_arguments_that_are_atoms(self):
        self.becomes("(con 0)", ("con", 0, ()))
        self.becomes("(con 1000 a two 3)", ("con", 1000, ("a", "two", 3)))

    def test_arguments_of_every_kind(self):
        for text, thing in (("(f a)", later(("call", "f", ("a",)))), ("(two a)", ("part", "two", ("a",))),
                            ("(con 2)", ("con", 2, ())), ("(con 2 a)", ("con", 2, ("a",))),
                            ("(note 1 a)", later(("note", 1, atom("a")))),
                            ("(seq x a x)", later(("seq", "x", atom("a"), atom("x")))),
                            ("(let (x a) x)", later(("let", (("x", later(atom("a"))),), atom("x")))),
                            ("(case a (0 () b))", later(("case", atom("a"), ((0, (), atom("b")),), None))),
                            ("(pick a (0 b))", later(("pick", atom("a"), ((0, atom("b")),), None))),
                            ("(+ 1 2)", later(("prim", "+", 1, 2)))):
            self.becomes(f"(con 5 {text})", ("let", (("n1", thing),), ("con", 5, ("n1",))))
            self.becomes(f"(con 5 a {text} 1)", ("let", (("n1", thing),), ("con", 5, ("a", "n1", 1))))

    def test_cons_in_cons(self):
        self.becomes("(con 1 1 (con 1 2 (con 1 3 (con 0))))",
                     ("let", (("n1", ("con", 1, (2, "n2"))), ("n2", ("con", 1, (3, "n3"))), ("n3", ("con", 0, ()))),
                      ("con", 1, (1, "n1"))))
        self.becomes("(con 1 (con 2 (f a)) (con 3 (two (f b))))",
                     ("let", (("n1", ("con", 2, ("n2",))), ("n2", later(("call", "f", ("a",)))),
                              ("n3", ("con", 3, ("n4",))),
                              ("n4", ("part", "two", ("n5",))), ("n5", later(("call", "f", ("b",))))),
                      ("con", 1, ("n1", "n3"))))


class PrimTest(NormalCase):
    def test_numbers_and_others_on_each_side(self):
        self.becomes("(+ 1 2)", ("prim", "+", 1, 2))
        self.becomes("(- a 2)", ("seq", "n1", atom("a"), ("prim", "-", "n1", 2)))
        self.becomes("(* 1 a)", ("seq", "n1", atom("a"), ("prim", "*", 1, "n1")))
        self.becomes("(div a b)", ("seq", "n1", atom("a"), ("seq", "n2", atom("b"), ("prim", "div", "n1", "n2"))))
        self.becomes("(mod a a)", ("seq", "n1", atom("a"), ("seq", "n2", atom("a"), ("prim", "mod", "n1", "n2"))))
        self.becomes("(== (f a) 2)", ("seq", "n1", ("call", "f", ("a",)), ("prim", "==", "n1", 2)))
        self.becomes("(< 1 (f a))", ("seq", "n1", ("call", "f", ("a",)), ("prim", "<", 1, "n1")))
        self.becomes("(<= (f a) zero)",
                     ("seq", "n1", ("call", "f", ("a",)), ("seq", "n2", atom("zero"), ("prim", "<=", "n1", "n2"))))

    def test_prims_in_prims(self):
        self.becomes("(+ (* 2 a) (- b 1))",
                     ("seq", "n1", ("seq", "n2", atom("a"), ("prim", "*", 2, "n2")),
                      ("seq", "n3", ("seq", "n4", atom("b"), ("prim", "-", "n4", 1)), ("prim", "+", "n1", "n3"))))

    def test_a_name_of_a_head_is_evaluated_too(self):
        self.becomes("(seq x a (+ x x))",
                     ("seq", "x", atom("a"), ("seq", "n1", atom("x"), ("seq", "n2", atom("x"),
                                                                       ("prim", "+", "n1", "n2")))))


class LetTest(NormalCase):
    def test_what_names_stand_for(self):
        for text, thing in (("3", later(atom(3))), ("a", later(atom("a"))), ("two", later(atom("two"))),
                            ("(con 1)", ("con", 1, ())), ("(con 1 a 2)", ("con", 1, ("a", 2))),
                            ("(three a)", ("part", "three", ("a",))), ("(three a b)", ("part", "three", ("a", "b"))),
                            ("(three a b 1)", later(("call", "three", ("a", "b", 1)))),
                            ("(three a b 1 2)", later(("call", "three", ("a", "b", 1, 2)))),
                            ("(one a)", later(("call", "one", ("a",)))), ("(zero a)", later(("call", "zero", ("a",)))),
                            ("(f a)", later(("call", "f", ("a",)))), ("(x a)", later(("call", "x", ("a",)))),
                            ("((note 1 three) a)", later(("seq", "n1", ("note", 1, atom("three")),
                                                          ("call", "n1", ("a",))))),
                            ("(note 1 (con 0))", later(("note", 1, ("con", 0, ())))),
                            ("(+ 1 2)", later(("prim", "+", 1, 2))),
                            ("(let (y (con 1)) y)", later(("let", (("y", ("con", 1, ())),), atom("y")))),
                            ("(seq y (con 1) y)", later(("seq", "y", ("con", 1, ()), atom("y"))))):
            self.becomes(f"(let (x {text}) x)", ("let", (("x", thing),), atom("x")))

    def test_new_names_in_the_same_let(self):
        self.becomes("(let (x (con 1 (f x) (con 2 x))) x)",
                     ("let", (("x", ("con", 1, ("n1", "n2"))), ("n1", later(("call", "f", ("x",)))),
                              ("n2", ("con", 2, ("x",)))),
                      atom("x")))
        self.becomes("(let (x (two (f x))) (y 3) (f y))",
                     ("let", (("x", ("part", "two", ("n1",))), ("n1", later(("call", "f", ("x",)))),
                              ("y", later(atom(3)))),
                      ("call", "f", ("y",))))
        self.becomes("(let (x (f (con 1))) x)",
                     ("let", (("x", later(("let", (("n1", ("con", 1, ())),), ("call", "f", ("n1",))))),), atom("x")))

    def test_names_that_stand_in_each_other(self):
        self.becomes("(let (x (con 1 1 y)) (y (con 1 2 x)) (f x))",
                     ("let", (("x", ("con", 1, (1, "y"))), ("y", ("con", 1, (2, "x")))), ("call", "f", ("x",))))
        self.becomes("(let (x (y x)) (y (x y)) y)",
                     ("let", (("x", later(("call", "y", ("x",)))), ("y", later(("call", "x", ("y",))))), atom("y")))

    def test_the_body(self):
        self.becomes("(let (x a) (f (x b)))",
                     ("let", (("x", later(atom("a"))),), ("let", (("n1", later(("call", "x", ("b",)))),),
                                                          ("call", "f", ("n1",)))))


class OtherTest(NormalCase):
    def test_seq_case_pick_and_note_stay(self):
        self.becomes("(seq x (f a) (seq y x (f y)))",
                     ("seq", "x", ("call", "f", ("a",)), ("seq", "y", atom("x"), ("call", "f", ("y",)))))
        self.becomes("(note 7 (note 8 (f a)))", ("note", 7, ("note", 8, ("call", "f", ("a",)))))
        self.becomes("(case (f a) (0 () 1) (1 (x y) (f x y)) (1 (z) z))",
                     ("case", ("call", "f", ("a",)), ((0, (), atom(1)), (1, ("x", "y"), ("call", "f", ("x", "y"))),
                                                      (1, ("z",), atom("z"))), None))
        self.becomes("(case a (else x (f (f x))))",
                     ("case", atom("a"), (), ("x", ("let", (("n1", later(("call", "f", ("x",)))),),
                                                    ("call", "f", ("n1",))))))
        self.becomes("(pick (+ 1 a) (-1 (f a)) (0 a) (else x (+ x 1)))",
                     ("pick", ("seq", "n1", atom("a"), ("prim", "+", 1, "n1")),
                      ((-1, ("call", "f", ("a",))), (0, atom("a"))),
                      ("x", ("seq", "n2", atom("x"), ("prim", "+", "n2", 1)))))
        self.becomes("(pick a)", ("pick", atom("a"), (), None))


class ProgramTest(unittest.TestCase):
    def lifted_programs(self):
        for seed in range(300):
            yield lift(CoreMaker(seed).program())
        for text in ("main = map (\\x -> x + 1) (upto 1 4)", "main = take 3 (filter (\\n -> 2 < n) (upto 1 9))",
                     "main = let xs = 1 : ys ; ys = 2 : xs in [note 3 (sum (take 4 xs))]"):
            yield lift(simplify(check(text)))

    def test_by_chance(self):
        for lifted in self.lifted_programs():
            normal = normal_form(lifted)
            self.assertTrue(is_normal(normal))
            self.assertTrue(slow_is_normal(normal))
            self.assertEqual(unnormal(normal, lifted), lifted)
            self.assertIsNone(check_program(core_of(normal)))
            self.assertLessEqual(program_size(core_of(normal)), 4 * program_size(core_of_lifted(lifted)))

    def test_new_names_are_used_nowhere_else(self):
        lifted = lift(program("n.1 = (lam n.2 n.3 (con 1 (n.2 (n.3 n.1))))\nmain = (let (n.5 (con 0)) (n.1 (n.5 n.5) (+ n.5 n.4)))"
                              "\nn.4 = 7"))
        normal = normal_form(lifted)
        self.assertTrue(is_normal(normal))
        self.assertEqual(unnormal(normal, lifted), lifted)
        for seed in range(100):
            lifted = lift(CoreMaker(seed).program())
            own = [name for name,
                   _, _ in lifted[0]] + [name for _, each in core_of_lifted(lifted)[0] for name in bound_names(each)]
            new = [name for _, each in core_of(normal_form(lifted))[0] for name in bound_names(each) if name not in own]
            self.assertEqual(len(new), len(set(new)))

    def test_it_shows_the_same(self):
        for lifted in self.lifted_programs():
            one, other = pages(shown(core_of_lifted(lifted), 900)[0]), pages(shown(core_of(normal_form(lifted)),
                                                                                   1500)[0])
            many = min(len(one), len(other))
            self.assertEqual(one[:many], other[:many])
            self.assertGreaterEqual(len(pages(shown(core_of(normal_form(lifted)), 9000)[0])), len(one))

    def test_the_size_of_many_prims(self):
        deep = "a"
        for _ in range(60):
            deep = f"(+ {deep} a)"
        lifted = lift(program(f"main = (con 0)\nf = (lam a {deep})\ng = (lam b (b (b b b) (b b) (con 0 (b b) (b b))))"))
        self.assertLessEqual(program_size(core_of(normal_form(lifted))), 4 * program_size(core_of_lifted(lifted)))

    def test_arguments_stay(self):
        lifted = lift(CoreMaker(8).program())
        before = repr(lifted)
        normal = normal_form(lifted)
        again = repr(normal)
        is_normal(normal)
        core_of(normal)
        self.assertEqual((repr(lifted), repr(normal)), (before, again))


class CoreOfTest(unittest.TestCase):
    def core(self, body, text):
        functions = (("main", (), atom(0)), ("use", ("a", "b", "f"), body))
        self.assertEqual(core_of((functions, "main")), ((("main", ("num", 0)), ("use", term(f"(lam a b f {text})"))),
                                                        "main"))

    def test_each_kind_of_body(self):
        self.core(atom(-3), "-3")
        self.core(atom("a"), "a")
        self.core(("call", "f", (1, "b", "main")), "(f 1 b main)")
        self.core(("con", 4, ()), "(con 4)")
        self.core(("con", 4, ("a", 1)), "(con 4 a 1)")
        self.core(("prim", "mod", "a", 2), "(mod a 2)")
        self.core(("prim", "<=", 3, "b"), "(<= 3 b)")
        self.core(("seq", "x", atom("a"), ("seq", "y", ("call", "f", ("x",)), atom("y"))), "(seq x a (seq y (f x) y))")
        self.core(("case", atom("a"), ((2, ("x", "y"), atom("y")), (0, (), atom(1))), None),
                  "(case a (2 (x y) y) (0 () 1))")
        self.core(("case", atom("a"), (), ("x", atom("x"))), "(case a (else x x))")
        self.core(("pick", atom(1), ((5, atom("b")),), ("x", ("con", 0, ("x",)))), "(pick 1 (5 b) (else x (con 0 x)))")
        self.core(("note", 9, ("note", 8, atom("a"))), "(note 9 (note 8 a))")

    def test_each_delayed_thing(self):
        self.core(("let", (("x", later(("call", "f", ("y",)))), ("y", ("con", 1, ("x", 2))),
                           ("z", ("part", "use", ("x", 1)))),
                   ("call", "z", ("y",))), "(let (x (f y)) (y (con 1 x 2)) (z (use x 1)) (z y))")
        self.core(("let", (("x", later(("let", (("y", later(atom("a"))),), atom("y")))),), atom("x")),
                  "(let (x (let (y a) y)) x)")

    def test_by_chance(self):
        for seed in range(100):
            normal = NormalMaker(seed).program()
            self.assertEqual([name for name, _ in core_of(normal)[0]], [name for name, _, _ in normal[0]])


class IsNormalTest(unittest.TestCase):
    """The params are a and b; f has three params, g none."""

    def program(self, body):
        return ((("main", (), atom(0)), ("f", ("p", "q", "r"), atom("p")), ("g", (), atom(1)),
                 ("use", ("a", "b"), body)), "main")

    def good(self, *bodies):
        for body in bodies:
            with self.subTest(body):
                self.assertIs(is_normal(self.program(body)), True)

    def bad(self, *bodies):
        for body in bodies:
            with self.subTest(body):
                self.assertIs(is_normal(self.program(body)), False)

    def test_no_bodies(self):
        self.bad(None, True, 1, "a", (), [], ["atom", 1], ("a",), (1, 2), (None,), (("atom", 1),), ([], 1),
                 ("later", atom(1)),
                 ("part", "f", (1,)), ("num", 1), ("var", "a"), ("app", atom("f"), atom(1)), ("lam", "x", atom(1)),
                 ("give", 1))

    def test_atoms(self):
        self.good(atom(0), atom(10 ** 15), atom(-10 ** 15), atom("a"), atom("g"), atom("use"), atom("main"))
        self.bad(atom(10 ** 15 + 1), atom(-10 ** 15 - 1), atom(True), atom(False), atom(None), atom(1.0), atom(("a",)),
                 atom([]),
                 atom("x"), atom(""), atom("p"), atom("A"), ("atom",), ("atom", 1, 2), ("atom", "a", None))

    def test_calls(self):
        self.good(("call", "f", (1,)), ("call", "a", ("a", "g", -1)), ("call", "g", (1, 2, 3, 4)))
        self.bad(("call", "f", ()), ("call", "f", [1]), ("call", "f", 1), ("call", "f"), ("call", "f", (1,), 1),
                 ("call", 1, (1,)),
                 ("call", "x", (1,)), ("call", None, (1,)), ("call", ("f",), (1,)), ("call", "f", (True,)),
                 ("call", "f", ("x",)),
                 ("call", "f", (1, None)), ("call", "f", (10 ** 15 + 1,)), ("call", "f", (atom(1),)),
                 ("call", "f", None))

    def test_cons(self):
        self.good(("con", 0, ()), ("con", 1000, ("a", 1, "f")))
        self.bad(("con", -1, ()), ("con", 1001, ()), ("con", True, ()), ("con", None, ()), ("con", "a", ()),
                 ("con", 0, []),
                 ("con", 0), ("con", 0, (), ()), ("con", 0, ("x",)), ("con", 0, (True,)), ("con", 0, (None,)),
                 ("con", 0, ["a"]),
                 ("con", 0, (("num", 1),)), ("con", 0, 1))

    def test_prims(self):
        self.good(*[("prim", sign, "a", 1) for sign in ("+", "-", "*", "div", "mod", "==", "<", "<=")],
                  ("prim", "+", "f", "g"))
        self.bad(("prim", ">", 1, 1), ("prim", "", 1, 1), ("prim", None, 1, 1), ("prim", ("+",), 1, 1),
                 ("prim", [], 1, 1),
                 ("prim", "+", 1), ("prim", "+", 1, 1, 1), ("prim", "+", "x", 1), ("prim", "+", 1, "x"),
                 ("prim", "+", True, 1),
                 ("prim", "+", 1, None), ("prim", "+", 1, 10 ** 15 + 1), ("prim", "+", atom(1), 1),
                 ("prim", "+=", 1, 1))

    def test_lets(self):
        self.good(("let", (("x", later(atom("y"))), ("y", ("con", 0, ("x", "y")))), atom("x")),
                  ("let", (("x", ("part", "f", ("x",))),), ("let", (("y", later(atom("x"))),), atom("y"))))
        x = ("x", later(atom(1)))
        self.bad(("let", (), atom(1)), ("let", [x], atom(1)), ("let", (list(x),), atom(1)), ("let", x, atom(1)),
                 ("let", (x,)),
                 ("let", (x,), atom(1), 1), ("let", (x, x), atom(1)), ("let", (x, ("x", ("con", 0, ()))), atom(1)),
                 ("let", ((1, x[1]),), atom(1)), ("let", (("", x[1]),), atom(1)), ("let", (("a b", x[1]),), atom(1)),
                 ("let", (("x" * 81, x[1]),), atom(1)), ("let", (("%", x[1]),), atom(1)),
                 ("let", ((None, x[1]),), atom(1)),
                 ("let", (("x",),), atom(1)), ("let", (("x", x[1], 1),), atom(1)), ("let", (x,), atom("y")),
                 ("let", (x,), None),
                 ("let", (x,), x[1]), ("let", (x,), ("part", "f", (1,))), ("let", None, atom(1)),
                 ("let", ((["x"], x[1]),), atom(1)))
        self.good(("let", (("x" * 80, x[1]), ("!~", x[1])), atom("x" * 80)))

    def let(self, thing):
        return ("let", (("x", thing),), atom(1))

    def test_delayed_things(self):
        self.good(*[self.let(thing) for thing in (
            later(atom("x")), later(("con", 0, ())), later(("let", (("y", later(atom("y"))),), atom("x"))),
            ("con", 3, ("x", "a", 1)),
            ("con", 0, ()), ("part", "f", (1,)), ("part", "f", ("x", "b")), ("part", "use", ("x",)))])
        self.bad(*[self.let(thing) for thing in (
            None, 1, "x", (), [], atom(1), atom("x"), ("call", "f", (1,)), ("note", 1, atom(1)), ("prim", "+", 1, 1),
            ("later",),
            later(None), later(later(atom(1))), later(atom("y")), later(("part", "f", (1,))), ("later", atom(1), 1),
            ["later", atom(1)], (["later"], atom(1)), ("con", 0, ("y",)), ("con", 1001, ()), ("con", 0, []),
            ("part", "f", ()), ("part", "f", (1, 2, 3)), ("part", "f", (1, 2, 3, 4)), ("part", "f", [1]),
            ("part", "f", ("y",)),
            ("part", "g", (1,)), ("part", "main", (1,)), ("part", "a", (1,)), ("part", "x", (1,)),
            ("part", "none", (1,)),
            ("part", 1, (1,)), ("part", None, (1,)), ("part", ["f"], (1,)), ("part", "f"), ("part", "f", (1,), 1),
            ("part", "f", (True,)), ("part", "f", 1), ("part", "use", (1, 2)))])

    def test_a_delayed_thing_that_equals_the_body(self):
        self.bad(("let", (("x", atom(1)),), atom(1)), ("let", (("x", later(atom(1))),), later(atom(1))),
                 ("let", (("x", ("call", "f", (1,))),), ("call", "f", (1,))))
        self.good(("let", (("x", ("con", 0, ())),), ("con", 0, ())))

    def test_seqs(self):
        self.good(("seq", "x", atom("a"), atom("x")), ("seq", "x", ("seq", "y", atom(1), atom("y")),
                                                       ("con", 0, ("x",))))
        self.bad(("seq", "x", atom("x"), atom("x")), ("seq", "x", atom(1), atom("y")), ("seq", "", atom(1), atom(1)),
                 ("seq", 1, atom(1), atom(1)), ("seq", None, atom(1), atom(1)), ("seq", "x", atom(1)),
                 ("seq", "x", None, atom(1)),
                 ("seq", "x", atom(1), None), ("seq", "x", atom(1), atom(1), atom(1)),
                 ("seq", "x", later(atom(1)), atom(1)),
                 ("seq", "x", ("seq", "y", atom(1), atom(1)), atom("y")), ("seq", ("x",), atom(1), atom(1)),
                 ["seq", "x", atom(1), atom(1)])

    def test_cases(self):
        def case(*alternatives):
            return ("case", atom("a"), alternatives, None)

        self.good(case(), case((0, (), atom(1))), case((1000, ("x", "y"), atom("y")), (0, ("y",), atom("y"))),
                  case((0, (), atom(1)), (0, (), atom(2))), ("case", atom("a"), (), ("x", atom("x"))))
        self.bad(case((0, (), atom("x"))), case((0, ("x",), atom("x")), (1, (), atom("x"))),
                 case((0, ("x", "x"), atom(1))),
                 case((-1, (), atom(1))), case((1001, (), atom(1))), case((True, (), atom(1))),
                 case((None, (), atom(1))),
                 case((0, [], atom(1))), case((0, ["x"], atom(1))), case((0, "x", atom(1))), case((0, ("",), atom(1))),
                 case((0, (1,), atom(1))), case((0, atom(1))), case((0, (), atom(1), 1)), case([0, (), atom(1)]),
                 case((0, (), None)),
                 case((0, (), later(atom(1)))), case(None), ("case", atom("a"), [], None),
                 ("case", atom("a"), None, None),
                 ("case", atom("a"), ()), ("case", atom("a"), (), None, None), ("case", None, (), None),
                 ("case", atom("x"), (), None),
                 ("case", atom("a"), (), ("x", atom("y"))), ("case", atom("a"), (), ("x",)),
                 ("case", atom("a"), (), ("", atom(1))),
                 ("case", atom("a"), (), ["x", atom(1)]), ("case", atom("a"), (), ("x", atom(1), 1)),
                 ("case", atom("a"), (), False),
                 ("case", atom("a"), (), ()), ("case", atom("a"), (), (1, atom(1))),
                 ("case", atom("a"), (), ("x", None)),
                 ("case", atom("a"), ((0, ("x",), atom(1)),), ("y", atom("x"))), ("case", atom("a"), (), atom(1)))

    def test_picks(self):
        def pick(*alternatives):
            return ("pick", atom("a"), alternatives, None)

        self.good(pick(), pick((0, atom(1)), (1, atom("a"))), pick((10 ** 15, atom(1)), (-10 ** 15, atom(1))),
                  ("pick", atom("a"), (), ("x", atom("x"))))
        self.bad(pick((10 ** 15 + 1, atom(1))), pick((-10 ** 15 - 1, atom(1))), pick((True, atom(1))),
                 pick((None, atom(1))),
                 pick(("a", atom(1))), pick((0, atom(1)), (0, atom(2))), pick((0,)), pick((0, atom(1), 1)),
                 pick([0, atom(1)]),
                 pick((0, (), atom(1))), pick((0, atom("x"))), pick((0, None)), ("pick", atom("a"), [], None),
                 ("pick", atom("a"), ()),
                 ("pick", atom("x"), (), None), ("pick", None, (), None), ("pick", atom("a"), (), None, 1),
                 ("pick", atom("a"), (), ("x", atom("y"))), ("pick", atom("a"), (), ("x",)),
                 ("pick", atom("a"), (), ("", atom(1))),
                 ("pick", atom("a"), (), False), ("pick", atom("a"), ((0, atom("x")),), ("x", atom("x"))))

    def test_notes(self):
        self.good(("note", 0, atom(1)), ("note", 10 ** 12, atom("a")))
        self.bad(("note", -1, atom(1)), ("note", 10 ** 12 + 1, atom(1)), ("note", True, atom(1)),
                 ("note", None, atom(1)),
                 ("note", "a", atom(1)), ("note", 1), ("note", 1, atom(1), 1), ("note", 1, None),
                 ("note", 1, atom("x")),
                 ("note", 1, later(atom(1))))

    def test_names_may_hide_each_other(self):
        self.good(("seq", "a", atom("a"), ("seq", "a", atom("a"), atom("a"))),
                  ("let", (("f", ("part", "f", ("f",))),), atom("f")),
                  ("case", atom("a"), ((0, ("a", "main"), atom("main")),), ("b", atom("b"))))

    def test_names_end_with_what_binds_them(self):
        for place in (lambda e: ("seq", "y", ("let", (("x", later(atom(1))),), atom("x")), e), lambda e: ("let", (
                ("y", later(("seq", "x", atom(1), atom("x")))),), e), lambda e: ("case",
                                                                                 ("seq", "x", atom(1), atom(1)), (),
                                                                                 ("y", e)),
                      lambda e: ("case", atom(1), ((0, ("x",), atom("x")),), ("y", e)),
                      lambda e: ("pick", atom(1), ((0, ("seq", "x", atom(1), atom("x"))),), ("y", e))):
            self.good(place(atom("y")))
            self.bad(place(atom("x")))

    def whole(self, expected, *functions, main="main"):
        self.assertIs(is_normal((functions, main)), expected)

    def test_functions(self):
        main = ("main", (), atom(1))
        self.whole(True, main)
        self.whole(True, ("f", ("a", "b"), atom("a")), main)
        self.whole(True, ("f", ("f", "main"), atom("f")), main)
        for function in (("f", ("a", "a"), atom(1)), ("f", ["a"], atom(1)), ("f", "a", atom(1)), ("f", (1,), atom(1)),
                         ("f", ("",), atom(1)), ("f", (None,), atom(1)), ("f", None, atom(1)), ("", (), atom(1)),
                         (1, (), atom(1)),
                         (None, (), atom(1)), ("a b", (), atom(1)), ("f" * 81, (), atom(1)), (("f",), (), atom(1)),
                         main,
                         ("main", ("a",), atom(1)), ("f", ("a",), atom("b")), ("f", (), atom("a")), ("f", (), None),
                         ("f", (["a"],), atom(1)), (["f"], (), atom(1))):
            self.whole(False, main, function)
            self.whole(False, function, main)

    def test_what_is_no_pair_of_functions_and_main(self):
        main = ("main", (), atom(1))
        for program in (((main,),), ((main,), "main", 1), ([main], "main"), ((list(main),), "main"), [(main,), "main"],
                        None,
                        ((main, ()), "main"), ((main, ("f", ())), "main"), ((main, ("f", (), atom(1), 1)), "main"),
                        ((main, None), "main"), ((main, "abc"), "main"), ((main,), None), ((main,), ""),
                        ((main,), ["main"]),
                        ((main,), 0), (None, "main"), (main, "main")):
            self.assertIs(is_normal(program), False, program)

    def test_main(self):
        self.whole(False)
        self.whole(False, ("f", (), atom(1)))
        self.whole(False, ("main", ("a",), atom(1)))
        self.whole(False, ("main", (), atom(1)), main="f")
        self.whole(True, ("f", (), atom(1)), ("main", ("a",), atom(1)), main="f")

    def test_names_of_another_function(self):
        self.whole(False, ("main", (), atom("a")), ("f", ("a",), atom("a")))
        self.whole(False, ("f", ("a",), atom("a")), ("main", (), atom("a")))
        self.whole(False, ("f", (), ("seq", "x", atom(1), atom("x"))), ("main", (), atom("x")))

    def test_by_chance(self):
        for seed in range(500):
            normal = NormalMaker(seed).program()
            self.assertIs(is_normal(normal), True)
            chance = random.Random(seed)
            for _ in range(12):
                functions = list(normal[0])
                place = chance.randrange(len(functions))
                functions[place] = broken(functions[place], chance)
                if type(functions[place]) is tuple and len(functions[place]) == 3:
                    other = (tuple(functions), chance.choice(("main", "main", "f", "none")))
                    before = repr(other)
                    self.assertIs(is_normal(other), slow_is_normal(other), other)
                    self.assertEqual(repr(other), before)


if __name__ == "__main__":
    unittest.main()

"""The translation to core: points 4.14 to 4.16."""

import unittest

from needonce.core import bound_names, check_program, free_names
from needonce.elaborate import elaborate
from needonce.errors import Ambiguous, IllTyped, KindError, NoInstance
from needonce.meaning import shown
from needonce.parser import parse
from needonce.prelude import with_prelude
from tests.core_text import term
from tests.program_making import ProgramMaker
from tests.slow import alike, free
from tests.test_infer import AROUND, DEEP, define

HEAD = """
data T a = A | B a (T a) | E
data P a b = P a b
class C a where { c :: a -> Int ; make :: Int -> a }
class D a where { d :: a -> Bool }
class Z a where { }
instance C Int where { make n = n ; c n = n }
instance C Bool where { c b = 1 ; make n = True }
instance C a => C (List a) where { c xs = case xs of { x : r -> c x } ; make n = [make n] }
instance (D b, C a) => D (P a b) where { d p = case p of { P x y -> d y } }
instance D Int where { d n = True }
"""


def terms(text):
    """The definitions of a program, by names."""
    program = elaborate(parse(f"{HEAD}{text}\n" + ("" if "main" in text else "main = []")))
    check_program(program)
    return dict(program[0])


class ElaborateCase(unittest.TestCase):
    def becomes(self, text, expected, name="f"):
        """The definition of a program becomes this term, up to the names of bound variables."""
        found = terms(text)[name]
        with self.subTest(text):
            self.assertTrue(alike(found, term(expected)), found)

    def expr(self, text, expected):
        self.becomes(f"f x y = {text}", f"(lam x y {expected})")

    def in_function(self, parameters, text, expected):
        self.becomes(f"f {parameters} = {text}", f"(lam {parameters} {expected})")


class RowsTest(ElaborateCase):
    def test_parameters_and_lambdas(self):
        self.becomes("f = 1", "1")
        self.becomes("f x = x", "(lam x x)")
        self.becomes("f x y z = y", "(lam x y z y)")
        self.becomes("f = \\x y -> x", "(lam x y x)")
        self.becomes("f x = \\x -> x", "(lam x (lam y y))")
        self.becomes("f = \\x -> \\y -> x y", "(lam x y (x y))")

    def test_names_numbers_and_applications(self):
        self.expr("x", "x")
        self.becomes("f x = g\ng = 1", "(lam x g)")
        self.expr("1000000000000", "1000000000000")
        self.in_function("x y z", "x y (z 1)", "(x y (z 1))")

    def test_constructors(self):
        self.expr("A", "(con 0)")
        self.expr("E", "(con 2)")
        self.expr("True", "(con 1)")
        self.expr("False", "(con 0)")
        self.expr("Nil", "(con 0)")
        self.expr("B", "(lam p q (con 1 p q))")
        self.expr("B x", "((lam p q (con 1 p q)) x)")
        self.expr("B x A", "((lam p q (con 1 p q)) x (con 0))")
        self.expr("P (\\z -> z) 1 ", "((lam p q (con 0 p q)) (lam z z) 1)")
        self.expr("Cons x []", "((lam p q (con 1 p q)) x (con 0))")
        self.becomes("data W = W (Int -> Int)\nf = W (\\x -> x)", "((lam p (con 0 p)) (lam x x))")

    def test_more_arguments_than_types(self):
        for text in ("f = B 1 A 2", "f = A 1", "f = P 1 2 3"):
            self.assertRaises(IllTyped, terms, text)

    def test_tags(self):
        self.becomes("data O = O0 | O1 Int | O2 | O3 Int Int\nf = P O0 (P (O1 1) (P O2 (O3 1 2)))",
                     "((lam p q (con 0 p q)) (con 0) ((lam p q (con 0 p q)) ((lam p (con 1 p)) 1)"
                     "((lam p q (con 0 p q)) (con 2) ((lam p q (con 3 p q)) 1 2))))")

    def test_lists(self):
        self.expr("[]", "(con 0)")
        self.expr("[x]", "(con 1 x (con 0))")
        self.expr("[x, y, 3]", "(con 1 x (con 1 y (con 1 3 (con 0))))")
        self.expr("x : y", "(con 1 x y)")
        self.expr("x : 2 : y", "(con 1 x (con 1 2 y))")

    def test_operators(self):
        for sign in ("+", "-", "*", "div", "mod", "==", "<", "<="):
            self.expr(f"x {sign} y", f"({sign} x y)")
        self.expr("x + 2 * y", "(+ x (* 2 y))")

    def test_ifs(self):
        self.expr("if x then y else 3", "(case x (0 () 3) (1 () y))")

    def test_notes(self):
        self.expr("note 7 x", "(note 7 x)")

    def test_lets(self):
        self.expr("let { } in x", "x")
        self.expr("let { z = x ; u v = v } in u z", "(let (z x) (u (lam v v)) (u z))")
        self.expr("let { b = a ; a = 1 ; g x = b } in a", "(let (b a) (a 1) (g (lam x b)) a)")
        self.expr("let { g :: Int -> Int ; g z = h z ; h z = g z ; k :: Int ; k = 1 } in h k",
                  "(let (g (lam z (h z))) (h (lam z (g z))) (k 1) (h k))")
        self.expr("let { x = x } in x", "(let (z z) z)")

    def test_cases_with_constructors(self):
        self.expr("case x of { B p q -> p ; A -> y }", "(case x (1 (p q) p) (0 () y))")
        self.expr("case x of { [] -> y ; p : q -> p }", "(case x (0 () y) (1 (p q) p))")
        self.expr("case x of { E -> 1 ; z -> y }", "(case x (2 () 1) (else z y))")
        self.expr("case x of { A -> x ; z -> z }", "(case x (0 () x) (else z z))")
        self.expr("case x of { True -> 1 }", "(case x (1 () 1))")

    def test_cases_with_numbers(self):
        self.expr("case x of { 3 -> y ; 0 -> 1 }", "(pick x (3 y) (0 1))")
        self.expr("case x of { 3 -> y ; z -> z }", "(pick x (3 y) (else z z))")

    def test_cases_with_a_name_only(self):
        self.expr("case x of { z -> z y }", "((lam z (z y)) x)")
        self.expr("case x + 1 of { z -> y }", "((lam z y) (+ x 1))")

    def test_names_that_hide_others(self):
        self.becomes("f x = let { f = x } in f", "(lam x (let (g x) g))")
        self.becomes("f c = c", "(lam x x)")
        self.becomes("f x = case x of { B x y -> x }", "(lam x (case x (1 (y z) y)))")
        self.becomes("f c = let { g x = c x } in g 1", "(lam h (let (g (lam x (h x))) (g 1)))")


class GlobalsTest(ElaborateCase):
    def test_names_and_their_order(self):
        program = elaborate(parse("f = 1\nclass K a where { k2 :: a ; k1 :: a }\nmain :: List Int\n"
                                  "instance K Int where { k1 = 1 ; k2 = 2 }\ndata U a = U\nmain = []\n"
                                  "instance K (U b) where { k2 = U ; k1 = k2 }\nclass N a where { }\n"
                                  "instance N Bool where { }\ng x = x"))
        self.assertEqual([name for name, _ in program[0]],
                         ["f", "k2", "k1", "K.Int", "main", "K.U", "N.Bool", "g"])
        self.assertEqual(program[1], "main")

    def test_the_prelude(self):
        program = elaborate(with_prelude(parse("main = upto 1 2")))
        names = [name for name, _ in program[0]]
        self.assertEqual((names[0], names[-2:], len(names)), ("id", ["upto", "main"], 22))
        self.assertEqual(dict(program[0])["main"], term("(upto 1 2)"))

    def test_methods(self):
        self.becomes("", "(lam d (case d (0 (a b) a)))", "c")
        self.becomes("", "(lam d (case d (0 (a b) b)))", "make")
        self.becomes("", "(lam e (case e (0 (a) a)))", "d")

    def test_instances(self):
        self.becomes("", "(con 0 (lam n n) (lam n n))", "C.Int")
        self.becomes("", "(con 0 (lam n (con 1)))", "D.Int")
        self.becomes("", "(con 0 (lam b 1) (lam n (con 1)))", "C.Bool")
        self.becomes("", "(lam e (con 0 (lam xs (case xs (1 (x r) (c e x)))) (lam n (con 1 (make e n) (con 0)))))", "C.List")
        self.becomes("", "(lam db ca (con 0 (lam p (case p (0 (x y) (d db y))))))", "D.P")
        self.becomes("instance Z (T a) where { }\ninstance (Z a, C a) => Z (List a) where { }", "(con 0)", "Z.T")
        self.becomes("instance Z (T a) where { }\ninstance (Z a, C a) => Z (List a) where { }", "(lam z c (con 0))", "Z.List")

    def test_methods_in_the_order_of_the_class(self):
        self.becomes("instance C (T a) where { make n = E ; c t = 3 }", "(con 0 (lam t 3) (lam n (con 2)))", "C.T")

    def test_a_method_that_uses_its_own_instance(self):
        self.becomes("instance C a => C (T a) where { c t = case t of { B x r -> c r + c x ; E -> c [t] } ; make n = make n }",
                     "(lam e (con 0 (lam t (case t (1 (x r) (+ (c (C.T e) r) (c e x))) (2 () (c (C.List (C.T e)) "
                     "(con 1 t (con 0)))))) (lam n (make (C.T e) n))))", "C.T")

    def test_added_names_contain_a_dot(self):
        source = {"x", "xs", "r", "n", "b", "p", "y", "c", "make", "d", "f", "main", "h"}
        for name, found in terms("f x = let { h y = P (c y) (P (c x) B) } in h").items():
            for other in bound_names(found) + free_names(found):
                self.assertTrue(other in source or "." in other, other)


class DictionaryTest(ElaborateCase):
    def test_uses_at_constructors(self):
        self.becomes("f = c 1", "(c C.Int 1)")
        self.becomes("f = c [True]", "(c (C.List C.Bool) (con 1 (con 1) (con 0)))")
        self.becomes("f x = d (P [x + 1] x)", "(lam x (d (D.P D.Int (C.List C.Int)) "
                     "((lam p q (con 0 p q)) (con 1 (+ x 1) (con 0)) x)))")

    def test_uses_at_variables(self):
        self.becomes("f x = c x", "(lam e x (c e x))")
        self.becomes("f = c", "(lam e (c e))")
        self.becomes("f x y = c [y] + c x", "(lam ex ey x y (+ (c (C.List ey) (con 1 y (con 0))) (c ex x)))")

    def test_the_order_of_the_dictionaries(self):
        self.becomes("f x y = if d y then (if d x then c x else c y) else c x",
                     "(lam cx dx cy dy x y (case (d dy y) (0 () (c cx x)) (1 () (case (d dx x) (0 () (c cy y)) "
                     "(1 () (c cx x))))))")
        self.becomes("f :: (D b, C b, C a) => a -> b -> Int\nf x y = if d y then c y else c x",
                     "(lam db cb ca x y (case (d db y) (0 () (c ca x)) (1 () (c cb y))))")

    def test_uses_of_names_with_contexts(self):
        text = "g :: (D b, C a) => a -> b -> Int\ng x y = 1\n"
        self.becomes(text + "f = g True 1", "(g D.Int C.Bool (con 1) 1)")
        self.becomes(text + "f x y = g [x] (P y 1)",
                     "(lam cx cy x y (g (D.P D.Int cy) (C.List cx) (con 1 x (con 0)) ((lam p q (con 0 p q)) y 1)))")
        self.becomes("g x y = if d y then c x else c y\nf x = g x 1", "(lam cx x (g cx C.Int D.Int x 1))")

    def test_within_its_own_group(self):
        self.becomes("f x = if d x then f x else c x", "(lam cx dx x (case (d dx x) (0 () (c cx x)) (1 () (f cx dx x))))")
        text = "f x y = if d x then 1 else g y x\ng x y = c x + f y x"
        self.becomes(text, "(lam dx cy x y (case (d dx x) (0 () (g cy dx y x)) (1 () 1)))")
        self.becomes(text, "(lam cx dy x y (+ (c cx x) (f dy cx y x)))", "g")

    def test_within_its_own_group_with_a_signature(self):
        self.becomes("f :: C a => a -> Int\nf x = f [x] + f 1 + f x",
                     "(lam e x (+ (+ (f (C.List e) (con 1 x (con 0))) (f C.Int 1)) (f e x)))")
        text = "g x = c x + f [x]\nf :: C a => a -> Int\nf x = g x"
        self.becomes(text, "(lam e x (g e x))")
        self.becomes(text, "(lam e x (+ (c e x) (f (C.List e) (con 1 x (con 0)))))", "g")

    def test_in_inner_groups(self):
        self.becomes("f y = let { g x = c x + c y } in g 1 + g True",
                     "(lam e y (let (g (lam i x (+ (c i x) (c e y)))) (+ (g C.Int 1) (g C.Bool (con 1)))))")
        self.becomes("f y = let { g = c y } in g", "(lam e y (let (g (c e y)) g))")
        self.becomes("f y = let { g = c y } in if y then g else g",
                     "(lam y (let (g (c C.Bool y)) (case y (0 () g) (1 () g))))")
        self.becomes("f y = let { g = let { h x = c [y] + c x } in h 1 + h [y] } in g",
                     "(lam e y (let (g (let (h (lam i x (+ (c (C.List e) (con 1 y (con 0))) (c i x)))) "
                     "(+ (h C.Int 1) (h (C.List e) (con 1 y (con 0)))))) g))")
        self.becomes("f :: C a => a -> Int\nf y = let { g x = c x + c y ; h :: Int -> Int ; h n = c y } in g y + h 1",
                     "(lam e y (let (g (lam i x (+ (c i x) (c e y)))) (h (lam n (c e y))) (+ (g e y) (h 1))))")

    def test_inner_definitions_with_signatures(self):
        self.becomes("f x = let { g :: (D b, C a) => a -> b -> Int ; g y z = c y + c x } in g 1 2",
                     "(lam e x (let (g (lam db ca y z (+ (c ca y) (c e x)))) (g D.Int C.Int 1 2)))")

    def test_uses_of_a_group_in_inner_groups_of_it(self):
        self.becomes("f x = let { g y = if d y then f x else c x } in g 1 + g (P x 1)",
                     "(lam e x (let (g (lam i y (case (d i y) (0 () (c e x)) (1 () (f e x))))) "
                     "(+ (g D.Int 1) (g (D.P D.Int e) ((lam p q (con 0 p q)) x 1)))))")

    def test_inner_names_that_hide_names_with_contexts(self):
        self.becomes("g x = c x\nf g = g 1", "(lam h (h 1))")
        self.becomes("g x = c x\nf x = let { g y = y } in g x", "(lam x (let (h (lam y y)) (h x)))")

    def test_needs_that_stay_out_of_contexts(self):
        self.becomes("f = let { g x = c x } in 1", "(let (g (lam e x (c e x))) 1)")
        self.becomes("f x = let { g = c x ; h = x + 1 } in g", "(lam x (let (g (c C.Int x)) (h (+ x 1)) g))")

    def test_main(self):
        self.becomes("main = make 3", "(make (C.List C.Int) 3)", "main")
        self.becomes("main = [c (make 3 : main)]", "(con 1 (c (C.List C.Int) (con 1 (make C.Int 3) main)) (con 0))", "main")


class ErrorTest(unittest.TestCase):
    def test_the_errors_of_types(self):
        for text, error_class in (("main = 1", IllTyped), ("main = [c A]", NoInstance), ("main = [c (make 1)]", Ambiguous)):
            with self.assertRaises(error_class) as held:
                elaborate(parse(HEAD + text))
            self.assertEqual(held.exception.name, "main")


class MeaningTest(unittest.TestCase):
    def test_programs_show_what_they_should(self):
        text = """
            class Show a where { toList :: a -> List Int ; count :: a -> Int }
            instance Show Int where { count n = 1 ; toList n = [n] }
            instance Show Bool where { toList b = [if b then 1 else 0] ; count b = 100 }
            instance Show a => Show (List a) where
              toList xs = case xs of
                [] -> []
                x : r -> append (toList x) (toList r)
              count xs = sum (map count xs)
            instance (Show b, Show a) => Show (Pair a b) where
              toList p = append (toList (fst p)) (toList (snd p))
              count p = count (fst p) * count (snd p)
            all x = count x : toList x
            main = append (all (Pair [1, 2, 3] [[True]])) (all [Pair False 5])
        """
        events, state, _ = shown(elaborate(with_prelude(parse(text))), 100000)
        self.assertEqual([n for _, n in events[:-1]], [300, 1, 2, 3, 1, 100, 0, 5])
        self.assertEqual(state, ("end",))

    def test_no_program_gets_stuck(self):
        states = set()
        for seed in range(500):
            try:
                program = elaborate(ProgramMaker(seed).program(seed % 4))
            except KindError:
                continue
            self.assertIsNone(check_program(program))
            states.add(shown(program, 2000)[1])
        self.assertTrue({("end",), ("more",)} <= states)
        self.assertNotIn(("stuck",), states)


class DeepTest(unittest.TestCase):
    def test_deep_trees(self):
        for name, tree in DEEP.items():
            with self.subTest(name):
                program = (*AROUND, define("main", tree))
                before = repr(program)
                core = elaborate(program)
                self.assertEqual(core[0][-1][0], "main")
                self.assertEqual(before, repr(program))

    def test_terms_are_closed(self):
        for name, found in terms("f x = let { g y = c x } in g 1").items():
            self.assertTrue(all(other in ("c", "make", "C.Int", "C.List", "d") for other in free(found)), name)


if __name__ == "__main__":
    unittest.main()

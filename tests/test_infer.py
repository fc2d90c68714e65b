"""Types, schemes and their errors: points 4.2 and 4.5 to 4.13."""

import unittest

from needonce.errors import Ambiguous, IllTyped, KindError, NoInstance
from needonce.infer import infer_program
from needonce.parser import parse, parse_expr
from needonce.prelude import with_prelude
from needonce.printing import print_kind
from needonce.scopes import check_scopes
from tests.program_making import ProgramMaker
from tests.slow_types import SlowTypes

MAIN = "main = []\n"
DATA = "data T a = A | B a (T a)\ndata P a b = P a b\ndata W f = W f\n"
CLASSES = """
class C a where { c :: a -> Int ; make :: Int -> a }
class D a where { d :: a -> Bool }
instance C Int where { c n = n ; make n = n }
instance C Bool where { c b = 1 ; make n = True }
instance C a => C (List a) where { c xs = 0 ; make n = [make n] }
instance (D a, C b) => C (P a b) where { c p = 0 ; make n = make n }
instance D a => D (T a) where { d t = True }
instance D Int where { d n = True }
"""


def shown(scheme):
    """A scheme as a text; its variables are those of its type, in order, by a test of its own."""
    _, context, kind = scheme
    words = [f"{name} {variable}" for name, variable in context]
    return " => ".join(([f"({', '.join(words)})"] if words else []) + [print_kind(kind)])


def outcome(text):
    """The schemes of a program by names, or the class and the name of its error."""
    program = parse(f"{DATA}{CLASSES}{text}\n" + ("" if "main" in text else MAIN))
    check_scopes(program)
    try:
        return {name: shown(scheme) for name, scheme in infer_program(program)}
    except KindError as error:
        return type(error), error.name


class InferCase(unittest.TestCase):
    def scheme(self, text, expected, name="f"):
        with self.subTest(text):
            found = outcome(text)
            self.assertIsInstance(found, dict, found)
            self.assertEqual(found[name], expected)

    def bad(self, text, error_class, name="f"):
        with self.subTest(text):
            self.assertEqual(outcome(text), (error_class, name))

    def expr(self, text, expected):
        """The type of an expression in a definition without parameters."""
        self.scheme(f"f = {text}", expected)

    def bad_expr(self, *texts):
        for text in texts:
            self.bad(f"f = {text}", IllTyped)


class ExpressionTest(InferCase):
    def test_numbers(self):
        self.expr("0", "Int")
        self.bad_expr("0 1")

    def test_application(self):
        self.scheme("f x y = x y", "(a -> b) -> a -> b")
        self.expr("(\\x -> x) 1", "Int")
        self.expr("P 1", "a -> P Int a")
        self.bad_expr("1 2", "True 1", "(\\x -> x + 1) True", "\\x -> x x", "A 1")

    def test_constructors(self):
        self.expr("A", "T a")
        self.expr("B", "a -> T a -> T a")
        self.expr("P", "a -> b -> P a b")
        self.expr("W W", "W (a -> W a)")
        self.expr("Nil", "List a")
        self.expr("Cons", "a -> List a -> List a")
        self.expr("[True, False]", "List Bool")
        self.expr("B 1 (B 2 A)", "T Int")
        self.bad_expr("B 1 (B True A)", "B 1 2", "Cons 1 [True]", "A A")

    def test_arithmetic(self):
        for sign in ("+", "-", "*", "div", "mod"):
            self.scheme(f"f x y = x {sign} y", "Int -> Int -> Int")
            self.bad_expr(f"True {sign} 1", f"1 {sign} True", f"[1 {sign} 2, True]", f"if 1 {sign} 2 then 1 else 2")

    def test_comparisons(self):
        for sign in ("==", "<", "<="):
            self.scheme(f"f x y = x {sign} y", "Int -> Int -> Bool")
            self.bad_expr(f"True {sign} 1", f"1 {sign} True", f"[] {sign} []", f"(1 {sign} 2) + 1")

    def test_cons(self):
        self.scheme("f x y = x : y", "a -> List a -> List a")
        self.expr("1 : 2 : []", "List Int")
        self.bad_expr("1 : 2", "1 : [True]", "[] : 1", "(1 : []) + 1")

    def test_lists(self):
        self.expr("[]", "List a")
        self.expr("[1, 2]", "List Int")
        self.expr("[[], [1]]", "List (List Int)")
        self.expr("[\\x -> x, \\x -> x + 1]", "List (Int -> Int)")
        self.bad_expr("[1, True]", "[1, [1]]", "[1] 2", "[[1], [True]]")

    def test_lambdas(self):
        self.expr("\\x -> x", "a -> a")
        self.expr("\\x y z -> x z (y z)", "(a -> b -> c) -> (a -> b) -> a -> c")
        self.expr("\\x -> \\y -> x", "a -> b -> a")
        self.bad_expr("(\\x y -> x) 1 2 3", "(\\x -> x) + 1", "if \\x -> x then 1 else 2")

    def test_parameters_have_one_type_each(self):
        self.bad("f x = P (x 1) (x True)", IllTyped)
        self.bad_expr("\\x -> P (x 1) (x True)", "case \\z -> z of { x -> P (x 1) (x True) }",
                      "case W (\\z -> z) of { W x -> P (x 1) (x True) }")
        self.scheme("f x = P (x 1) (x 2)", "(Int -> a) -> P a a")

    def test_ifs(self):
        self.scheme("f x y z = if x then y else z", "Bool -> a -> a -> a")
        self.bad_expr("if 1 then 2 else 3", "if True then 1 else True", "if True then 1 else []",
                      "(if True then 1 else 2) : 3")

    def test_notes(self):
        self.scheme("f x = note 7 x", "a -> a")
        self.expr("note 7 True", "Bool")
        self.bad_expr("note 7 True + 1", "note 7 (1 + True)", "(note 7 1) 2")

    def test_cases_with_constructors(self):
        self.scheme("f t = case t of { A -> 0 ; B x r -> x }", "T Int -> Int")
        self.scheme("f t = case t of { B x r -> r }", "T a -> T a")
        self.scheme("f p = case p of { P x y -> P y x }", "P a b -> P b a")
        self.scheme("f xs = case xs of { x : r -> x ; [] -> True }", "List Bool -> Bool")
        self.scheme("f w = case w of { W g -> g 1 }", "W (Int -> a) -> a")
        self.bad_expr("case 1 of { A -> 1 }", "case A of { [] -> 1 }", "\\x -> case x of { A -> 1 ; [] -> 1 }",
                      "\\x -> case x of { A -> 1 ; B y r -> True }", "case B 1 A of { B x r -> x r }",
                      "\\x -> [case x of { B y r -> y + 1 ; A -> 1 }, case x of { B y r -> if y then 1 else 2 }]")

    def test_cases_with_numbers(self):
        self.scheme("f x = case x of { 0 -> True ; 1 -> False }", "Int -> Bool")
        self.bad_expr("case True of { 1 -> 1 }", "\\x -> case x of { 1 -> 1 ; A -> 2 }",
                      "\\x -> case x of { 1 -> 1 ; 2 -> True }")

    def test_cases_with_names(self):
        self.scheme("f x = case x of { y -> y }", "a -> a")
        self.scheme("f x = case x of { 0 -> [] ; y -> [y] }", "Int -> List Int")
        self.scheme("f x = case x of { A -> A ; y -> y }", "T a -> T a")
        self.bad_expr("case A of { y -> y + 1 }", "\\x -> case x of { 1 -> 1 ; y -> y 1 }")
        self.bad_expr("(case True of { y -> y }) + 1")

    def test_lets(self):
        self.expr("let { x = 1 ; y = True } in P x y", "P Int Bool")
        self.expr("let { } in 1", "Int")
        self.expr("let { g x = P x y ; y = 2 } in g", "a -> P a Int")
        self.bad_expr("let { x = 1 } in x 2", "let { x = 1 + True } in 2", "let { x = y ; y = x + [] } in 2",
                      "(let { x = 1 } in x) : 1")

    def test_names_that_hide_others(self):
        self.scheme("f x = \\x -> x + 1", "a -> Int -> Int")
        self.scheme("f c = c + 1", "Int -> Int")
        self.scheme("g = 1\nf g = g True", "(Bool -> a) -> a")
        self.scheme("f x = let { x = True } in x", "a -> Bool")
        self.scheme("f x = case x of { B x r -> x + 1 }", "T Int -> Int")
        self.scheme("f x = let { g x = x } in P (g 1) (g x)", "a -> P Int a")
        self.scheme("f f = f + 1", "Int -> Int")
        self.expr("let { x = 1 } in let { x = \\y -> y } in P (x True) (x 1)", "P Bool Int")


class GroupTest(InferCase):
    def test_each_definition_of_a_let_is_generalised(self):
        self.expr("let { g x = x ; h = g } in P (g 1) (P (g True) (P (h 1) (h True)))",
                  "P Int (P Bool (P Int Bool))")
        self.expr("let { e = [] } in P (1 : e) (True : e)", "P (List Int) (List Bool)")

    def test_not_over_what_occurs_in_the_types_of_names_around(self):
        self.scheme("f x = let { g y = x } in P (g 1) (g True)", "a -> P a a")
        self.bad("f x = let { y = x } in P (y 1) (y True)", IllTyped)
        self.bad("f x = let { g z = x z } in P (g 1) (g True)", IllTyped)
        self.bad_expr("\\x -> let { y = [x] } in P (1 : y) (True : y)")
        self.bad_expr("\\p -> case p of { P x z -> let { y = [x] } in P (1 : y) (True : y) }")
        self.scheme("f x = let { g y = P x y } in P (g 1) (g True)", "a -> P (P a Int) (P a Bool)")

    def test_the_names_of_the_group_itself_are_around_its_lets(self):
        self.bad("f x = let { g y = f y } in case P (g 1) (g True) of { z -> 1 }", IllTyped)
        self.scheme("f x = let { g y = f x } in case P (g 1) (g True) of { z -> 1 }", "a -> Int")
        self.bad("f x = let { g y = f x } in P (g 1) (g True)", IllTyped)

    def test_hidden_names_count(self):
        self.bad_expr("\\x -> \\y -> let { z = y } in \\y -> P (z 1) (z True)")
        self.bad("f x = case [x] of { l -> case l of { x -> let { z = case l of { y : r -> y } } in P (z 1) (z True) } }",
                 IllTyped)
        self.bad("f x = (\\y -> (\\x -> let { z = y } in P (z 1) (z True)) 1) x", IllTyped)

    def test_definitions_that_need_each_other(self):
        self.scheme("f x = g x\ng x = f x", "a -> b")
        self.scheme("f x = g x\ng x = f (x + 1)", "Int -> a")
        self.scheme("f n x = if n == 0 then x else g n x\ng n x = f (n - 1) x", "Int -> a -> a", "g")
        self.bad("f x = P (g 1) (g True)\ng x = P (f x) x", IllTyped)
        self.bad("f x = g 1\ng x = P (f 1) (f True)", IllTyped)
        self.expr("let { ev n = if n == 0 then True else od (n - 1) ; od n = if n == 0 then False else ev (n - 1) } in "
                  "ev", "Int -> Bool")

    def test_definitions_that_do_not(self):
        self.scheme("f = P (g 1) (g True)\ng x = x", "P Int Bool")
        self.scheme("g x = x\nf = P (g 1) (g True)", "P Int Bool")

    def test_a_name_within_its_own_definition_has_one_type(self):
        self.bad("f x = P (f 1) (f True)", IllTyped)
        self.bad("f x = case x of { W y -> f y }", IllTyped)

    def test_polymorphic_recursion(self):
        self.scheme("f :: W a -> Int\nf x = f (W x)", "W a -> Int")
        self.scheme("f :: a -> Int\nf x = f 1 + f True", "a -> Int")
        self.scheme("f :: a -> Int\nf x = g x\ng x = f 1 + f [x]", "a -> Int", "g")
        self.expr("let { h :: a -> Int ; h x = h [x] + h 1 } in h True", "Int")

    def test_a_group_is_checked_after_those_that_it_needs(self):
        self.scheme("f = P (g 1) (g [])\ng = h\nh x = x", "P Int (List a)")

    def test_variables_of_schemes(self):
        program = parse("f x y = P y x\ng :: b -> zz -> b\ng x y = x\n" + DATA + MAIN)
        found = dict(infer_program(program))
        self.assertEqual(found["f"][0], ("a", "b"))
        self.assertEqual(found["g"], (("b", "zz"), (), ("fun", ("name", "b"), ("fun", ("name", "zz"), ("name", "b")))))
        self.assertEqual(found["main"], ((), (), ("con", "List", (("con", "Int", ()),))))
        self.assertEqual([name for name, _ in infer_program(program)], ["f", "g", "main"])

    def test_the_names_of_variables(self):
        names = [f"x{k}" for k in range(60)]
        found = dict(infer_program(parse(f"f {' '.join(names)} = []\n" + MAIN)))["f"][0]
        self.assertEqual(found[:27], tuple("abcdefghijklmnopqrstuvwxyz") + ("a1",))
        self.assertEqual(found[51:54], ("z1", "a2", "b2"))
        self.assertEqual(len(found), 61)

    def test_the_order_of_the_result(self):
        program = with_prelude(parse("zz = 1\nb_a = 2\na' = 3\na = 4\na1 = 5\n" + MAIN))
        names = [name for name, _ in infer_program(program)]
        self.assertEqual(names, sorted(names))
        self.assertEqual(names[:4], ["a", "a'", "a1", "and"])

    def test_the_example(self):
        a = ("name", "a")
        found = dict(infer_program(parse("twice f x = f (f x)\n" + MAIN)))
        self.assertEqual(found["twice"], (("a",), (), ("fun", ("fun", a, a), ("fun", a, a))))


class ContextTest(InferCase):
    def test_needs_go_into_the_context(self):
        self.scheme("f x = c x", "(C a) => a -> Int")
        self.scheme("f x y = c y", "(C b) => a -> b -> Int")
        self.scheme("f = c", "(C a) => a -> Int")
        self.scheme("f = make 1", "(C a) => a")

    def test_without_duplicates_and_in_order(self):
        self.scheme("f x y = [c y, c x, if d x then c x else 1]", "(C a, D a, C b) => a -> b -> List Int")
        self.scheme("f x y = if d y then (if d x then c x else c y) else c x",
                    "(C a, D a, C b, D b) => a -> b -> Int")
        self.scheme("f x = c x + c x", "(C a) => a -> Int")

    def test_the_context_of_a_group(self):
        text = "f x y = if d x then 1 else g y x\ng x y = c x + f y x"
        self.scheme(text, "(D a, C b) => a -> b -> Int")
        self.scheme(text, "(C a, D b) => a -> b -> Int", "g")

    def test_needs_are_reduced_in_contexts(self):
        self.scheme("f x = c [x]", "(C a) => a -> Int")
        self.scheme("f x y = c [P x [y]]", "(D a, C b) => a -> b -> Int")
        self.scheme("f x = c [[1]]", "a -> Int")
        self.scheme("f x = d (B x A)", "(D a) => a -> Bool")

    def test_a_signature_as_it_is_written(self):
        self.scheme("f :: (D b, C b, C a) => a -> b -> Int\nf x y = 1", "(D b, C b, C a) => a -> b -> Int")
        found = dict(infer_program(parse("class C a where { }\nclass D a where { }\nf :: (D zz, C b) => b -> zz -> b\n"
                                         "f x y = x\n" + MAIN)))
        self.assertEqual(found["f"][:2], (("b", "zz"), (("D", "zz"), ("C", "b"))))

    def test_methods(self):
        self.scheme("f x = make (c x)", "(C a, C b) => a -> b")
        self.bad("f = c True + c d", NoInstance)
        self.bad("f = make True", IllTyped)

    def test_needs_of_a_let(self):
        self.expr("let { g x = c x } in g 1 + g True", "Int")
        self.scheme("f y = let { g x = c x + c y } in g 1", "(C a) => a -> Int")
        self.scheme("f y = let { g = c y } in g", "(C a) => a -> Int")
        self.scheme("f y = let { g x = c y + c x } in g", "(C a, C b) => a -> b -> Int")

    def test_needs_that_are_handed_on_and_reduced_later(self):
        self.scheme("f y = let { g = c y } in if y then g else g", "Bool -> Int")
        self.bad("f y = let { g = c y } in y 1 + g", NoInstance)
        self.scheme("f y = let { g = let { h = c y } in h } in g", "(C a) => a -> Int")
        self.scheme("f y = let { g = c y } in case y of { x : r -> g }", "(C a) => List a -> Int")
        self.scheme("f y = let { g :: Int -> Int ; g n = c y } in g 1", "(C a) => a -> Int")
        self.scheme("f :: C a => a -> Int\nf y = let { g = c y } in g", "(C a) => a -> Int")
        self.bad("f :: a -> Int\nf y = let { g = c y } in g", NoInstance)

    def test_uses_of_names_with_contexts(self):
        self.scheme("g x = c x\nf x = g [x]", "(C a) => a -> Int")
        self.scheme("g x = c x\nf = g 1", "Int")
        self.bad("g x = c x\nf = g A", NoInstance)
        self.scheme("g :: D a => a -> a\ng x = x\nf x = g (B x A)", "(D a) => a -> T a")


class AmbiguousTest(InferCase):
    def test_a_group(self):
        self.bad("f = c (make 1)", Ambiguous)
        self.bad("f x = c (make (c x))", Ambiguous)
        self.bad("f = c []", Ambiguous)
        self.bad("f x = if d (make 1) then x else x", Ambiguous)

    def test_a_definition(self):
        self.bad("f :: Int\nf = c (make 1)", Ambiguous)
        self.bad("f :: C a => a -> Int\nf x = c (make (c x))", Ambiguous)

    def test_in_a_let(self):
        self.bad("f = let { x = c (make 1) } in x", Ambiguous)
        self.bad("f y = let { x :: Int ; x = c (make 1) } in x + y", Ambiguous)

    def test_a_method(self):
        self.bad("instance D Bool where { d x = c (make 1) == 1 }", Ambiguous, "D.Bool.d")

    def test_a_need_must_be_on_the_types_of_all_names_of_the_group(self):
        self.bad("f x = case g of { n -> c x }\ng = f A\n", NoInstance)
        self.bad("f n = n + (case h (make 1) of { x -> 1 })\nh x = [c x, f 1]", Ambiguous)
        self.bad("h x = [c x, f 1]\nf n = n + (case h (make 1) of { x -> 1 })", Ambiguous, "h")
        self.bad("f = let { g n = n + (case h (make 1) of { x -> 1 }) ; h x = [c x, g 1] } in g 1", Ambiguous)

    def test_not_if_a_type_around_has_it(self):
        self.scheme("f x = let { g = c x } in g + 1", "(C a) => a -> Int")
        self.scheme("f x = let { g y = c x } in g 1 + g True", "(C a) => a -> Int")


class NoInstanceTest(InferCase):
    def test_on_constructors(self):
        self.expr("c 1 + c True + c [1] + c [[True]] + c (P 1 [1])", "Int")
        self.bad("f = c A", NoInstance)
        self.bad("f = c [A]", NoInstance)
        self.bad("f = c (P True 1)", NoInstance)
        self.bad("f = c (P (B 1 A) [[A]])", NoInstance)
        self.expr("c (P (B (B 1 A) A) [[P 1 1]])", "Int")
        self.bad("f = d [1]", NoInstance)

    def test_on_functions(self):
        self.bad("f = c c", NoInstance)
        self.bad("f x = c (\\y -> x)", NoInstance)
        self.bad("f = c [\\y -> 1]", NoInstance)

    def test_on_named_variables(self):
        self.bad("f :: a -> Int\nf x = c x", NoInstance)
        self.bad("f :: D a => a -> Int\nf x = c x", NoInstance)
        self.bad("f :: C b => a -> b -> Int\nf x y = c x", NoInstance)
        self.scheme("f :: C b => a -> b -> Int\nf x y = c y", "(C b) => a -> b -> Int")
        self.scheme("f :: (D a, C a) => a -> Int\nf x = if d x then c x else c [x]", "(D a, C a) => a -> Int")
        self.bad("f :: D a => a -> Int\nf x = c [P x [x]]", NoInstance)

    def test_given_by_a_signature_around(self):
        self.scheme("f :: C a => a -> Int\nf x = let { g :: b -> Int ; g y = c x } in g 1 + g A", "(C a) => a -> Int")
        self.scheme("f :: C a => a -> Int\nf x = let { g :: D a => a -> Int ; g y = if d y then c x else 1 } in g 1",
                    "(C a) => a -> Int")
        self.bad("f :: C a => a -> Int\nf x = let { g :: a -> Int ; g y = c y } in g 1", NoInstance)
        self.scheme("f :: C a => a -> Int\nf x = let { g y = c x + c y } in g 1 + g True", "(C a) => a -> Int")

    def test_given_by_an_instance(self):
        self.scheme("instance (C a, D a) => D (List a) where { d xs = case xs of { x : r -> if d x then d r else c x < 1 } }"
                    "\nf = d [1]", "Bool")
        self.bad("instance C a => D (List a) where { d xs = case xs of { x : r -> d x } }", NoInstance, "D.List.d")
        self.bad("instance D (List a) where { d xs = case xs of { x : r -> d x } }", NoInstance, "D.List.d")
        self.scheme("instance C a => D (List a) where { d xs = let { g :: b -> Int ; g y = case xs of { x : r -> c x } } in "
                    "g 1 < 2 }\nf = d [1]", "Bool")

    def test_in_inner_groups(self):
        self.bad("f = let { g = c A } in 1", NoInstance)
        self.bad("f = let { g x = let { h = c (\\y -> x) } in 1 } in 1", NoInstance)
        self.bad("f = let { g :: a -> Int ; g x = c x } in 1", NoInstance)


class SignatureTest(InferCase):
    def test_types(self):
        self.scheme("f :: Int -> Int\nf x = x", "Int -> Int")
        self.scheme("f :: List a -> List a\nf x = x", "List a -> List a")
        self.bad("f :: Int -> Bool\nf x = x", IllTyped)
        self.bad("f :: Int\nf x = x", IllTyped)
        self.bad("f :: Int -> Int\nf = 1", IllTyped)

    def test_too_general(self):
        self.bad("f :: a -> b\nf x = x", IllTyped)
        self.bad("f :: a -> a\nf x = x + 1", IllTyped)
        self.bad("f :: a -> List a\nf x = x", IllTyped)
        self.bad("f :: a -> b -> a\nf x y = if True then x else y", IllTyped)
        self.bad("f = let { g :: a -> Int ; g x = x } in 1", IllTyped)

    def test_too_general_by_way_of_a_name_around(self):
        self.bad("f x = let { g :: a -> a ; g y = if True then x else y } in 1", IllTyped)
        self.bad("f x = let { g :: a -> List a ; g y = [x, y] } in g 1", IllTyped)
        self.bad_expr("\\x -> let { g :: a -> Int ; g y = case [x, [y]] of { z -> 1 } } in g 1",
                      "case [] of { l -> let { g :: a -> List a ; g y = y : l } in 1 }")
        self.bad("f x = let { g :: a -> Int ; g y = case f y of { z -> 1 } } in g 1", IllTyped)
        self.bad("f x = (\\x -> let { g :: a -> a ; g y = if True then x else y } in \\x -> 1) x", IllTyped)
        self.scheme("f x = let { g :: a -> b -> a ; g y z = y } in g x x", "a -> a")
        self.scheme("f :: a -> a\nf x = let { g :: a -> a ; g y = y } in g x", "a -> a")
        self.bad("f :: a -> a\nf x = let { g :: a -> a ; g y = x } in g x", IllTyped)

    def test_variables_of_other_signatures(self):
        self.scheme("f :: a -> b -> b\nf x y = g x y\ng :: b -> a -> a\ng x y = y", "a -> b -> b")
        self.scheme("f :: a -> Int\nf x = let { g :: a -> a ; g y = y } in g (g 1)", "a -> Int")

    def test_uses(self):
        self.scheme("g :: List a -> Int\ng x = 1\nf = g [1] + g [True]", "Int")
        self.bad("g :: List a -> Int\ng x = 1\nf = g 1", IllTyped)
        self.scheme("g :: Int -> Int\ng x = x\nf x = g x", "Int -> Int")
        self.scheme("g :: Int -> Int\ng x = f x\nf x = x", "a -> a")

    def test_in_a_let(self):
        self.expr("let { g :: a -> a ; g x = x } in P (g 1) (g True)", "P Int Bool")
        self.bad_expr("let { g :: Int -> Int ; g x = x } in g True")
        self.expr("let { h = g 1 ; g :: C a => a -> Int ; g x = h + c x } in h + g True", "Int")


class InstanceTest(InferCase):
    CLASS = "class K a where { k :: a -> b -> P a b ; l :: List a -> c' -> b ; m :: a }\n"

    def instance(self, text, expected):
        with self.subTest(text):
            found = outcome(self.CLASS + f"instance {text}")
            self.assertEqual(found if isinstance(found, tuple) else None, expected)

    def test_good(self):
        self.instance("K Int where { k x y = P x y ; l x y = l x y ; m = 1 }", None)
        self.instance("K (T b) where { m = A ; l x y = l x y ; k x y = P x y }", None)
        self.instance("K (T a) where { m = A ; l x y = l x y ; k x y = P x y }", None)
        self.instance("(K b, K c', C b) => K (P c' b) where { k x y = P x y ; l x y = l x y ; m = P m (make 1) }", None)

    def test_other_variables_are_renamed_apart(self):
        self.instance("K (T b) where { k x y = case x of { B z r -> P (B y A) y } ; l x y = l x y ; m = A }",
                      (IllTyped, "K.T.k"))
        self.instance("K (T b) where { k x y = P x y ; l x y = case x of { t : r -> case t of { B z s -> z } } ; m = A }",
                      (IllTyped, "K.T.l"))
        self.instance("K (W c') where { k x y = P x y ; l x y = case x of { w : r -> l [w, W y] y } ; m = m }",
                      (IllTyped, "K.W.l"))

    def test_types_of_methods(self):
        self.instance("K Int where { k x y = P y x ; l x y = l x y ; m = 1 }", (IllTyped, "K.Int.k"))
        self.instance("K Int where { k x = x ; l x y = l x y ; m = 1 }", (IllTyped, "K.Int.k"))
        self.instance("K Bool where { k x y = P x y ; l x y = l x y ; m = 1 }", (IllTyped, "K.Bool.m"))
        self.instance("K (T b) where { k x y = P x y ; l x y = l x y ; m = B 1 A }", (IllTyped, "K.T.m"))

    def test_contexts(self):
        self.instance("K (P a b) where { k x y = P x y ; l x y = l x y ; m = P m m }", (NoInstance, "K.P.m"))
        self.instance("K a => K (P a b) where { k x y = P x y ; l x y = l x y ; m = P m m }", (NoInstance, "K.P.m"))
        self.instance("(K b, K a) => K (P a b) where { k x y = P x y ; l x y = l x y ; m = P m m }", None)
        self.instance("(C a, D a, K b) => K (P a b) where { k x y = P x y ; l x y = l x y ; "
                      "m = if d (fst' m) then P (make 1) m else P (make (c (fst' m))) m }\n"
                      "fst' :: P a b -> a\nfst' p = case p of { P x y -> x }", (Ambiguous, "K.P.m"))
        self.instance("(C a, D a, K b) => K (P a b) where { k x y = P x y ; l x y = l x y ; "
                      "m = case m of { P x y -> if d x then P (make (c x)) m else P x y } }", None)

    def test_methods_are_used_at_all_types_that_have_instances(self):
        self.scheme(self.CLASS + "instance K Int where { k x y = P x y ; l x y = l x y ; m = 1 }\nf = k 1 A", "P Int (T a)")
        self.bad(self.CLASS + "instance K Int where { k x y = P x y ; l x y = l x y ; m = 1 }\nf = k A 1", NoInstance)


class MainTest(InferCase):
    def test_without_a_signature(self):
        self.scheme("main = []", "List Int", "main")
        self.scheme("main = f\nf = make 1 : f", "List Int", "main")
        self.scheme("main = main", "List Int", "main")
        self.scheme("main = let { x = make 1 } in [x]", "List Int", "main")
        self.scheme("main = make 3", "List Int", "main")
        self.bad("main = 1", IllTyped, "main")
        self.bad("main = [True]", IllTyped, "main")
        self.bad("main = \\x -> x", IllTyped, "main")
        self.bad("main x = [x]", IllTyped, "main")
        self.bad("main = [[]]", IllTyped, "main")
        self.bad("f = main\nmain = case f of { b -> f : [] }", IllTyped)

    def test_its_type_is_made_before_it_is_generalised(self):
        self.scheme("main = f\nf = case main of { x -> f }", "List Int")
        self.bad("f = [True, case main of { x -> True }]\nmain = case f of { x -> f }", IllTyped)
        self.scheme("f = case main of { x -> [] }\nmain = f", "List Int")
        self.scheme("f = []\nmain = f", "List a")

    def test_with_a_signature(self):
        self.scheme("main :: List Int\nmain = []", "List Int", "main")
        for kind in ("a", "List a", "Int", "List Bool", "T Int", "Int -> List Int", "C a => List a"):
            self.bad(f"main :: {kind}\nmain = main", IllTyped, "main")
        self.bad("main :: List Int\nmain = [True]", IllTyped, "main")
        self.bad("main :: C a => a\nmain = make 1", IllTyped, "main")


class OrderTest(InferCase):
    def test_groups_in_their_order(self):
        self.bad("f = 1 + True\ng = [] + 1", IllTyped)
        self.bad("g = [] + 1\nf = 1 + True", IllTyped, "g")
        self.bad("f = case g of { x -> 1 + True }\ng = [] + 1", IllTyped, "g")
        self.bad("f = c A\ng = 1 + True", NoInstance)
        self.bad("f = c (make 1)\ng = 1 + True", Ambiguous)
        self.bad("f = c (make 1)\ng = c A", Ambiguous)
        self.bad("main = 1\nf = 1 + True", IllTyped, "main")
        self.bad("f = 1 + True\nmain = 1", IllTyped, "f")
        self.bad("f = c A\nmain :: Int\nmain = 1", NoInstance)
        self.bad("main :: Int\nmain = 1\nf = c A", IllTyped, "main")

    def test_the_first_name_of_the_group(self):
        self.bad("f = g\ng = f + True", IllTyped)
        self.bad("g = f + True\nf = g", IllTyped, "g")
        self.bad("h = 1\nf = g\ng = f + c A", NoInstance)
        self.bad("f = g + 1\ng :: Int\ng = f + True", IllTyped, "g")

    def test_groups_ahead_of_instances(self):
        wrong = "instance D Bool where { d x = 1 }\n"
        self.bad(wrong + "f = c (make 1)", Ambiguous)
        self.bad("f = c A\n" + wrong, NoInstance)
        self.bad("f = 1\n" + wrong, IllTyped, "D.Bool.d")

    def test_instances_in_their_order(self):
        first = "instance D Bool where { d x = c A == 1 }\n"
        second = "instance C (T a) where { make n = 1 ; c x = True }\n"
        third = "instance D (List a) where { d x = 1 }\n"
        self.bad(third + first, IllTyped, "D.List.d")
        self.bad(first.replace("c A == 1", "c (W 1) == 1") + second, NoInstance, "D.Bool.d")
        self.bad(second + first, IllTyped, "C.T.c")

    def test_methods_in_the_order_of_the_class(self):
        self.bad("instance C (T a) where { make n = 1 ; c x = True }", IllTyped, "C.T.c")
        self.bad("instance C (T a) where { c x = True ; make n = 1 }", IllTyped, "C.T.c")
        self.bad("instance C (T a) where { make n = 1 ; c x = c (W 1) }", NoInstance, "C.T.c")
        self.bad("instance C (T a) where { make n = 1 ; c x = 1 }", IllTyped, "C.T.make")

    def test_ill_typed_ahead_of_no_instance_ahead_of_ambiguous(self):
        ill, none, double = "1 + True", "c A", "c (make 1)"
        for one, other, error_class in ((ill, none, IllTyped), (ill, double, IllTyped), (none, double, NoInstance)):
            for first, second in ((one, other), (other, one)):
                self.bad(f"f = [{first}, {second}]", error_class)
                self.bad(f"f = let {{ g = {first} }} in {second}", error_class)
                self.bad(f"f = let {{ g = {first} ; h = {second} }} in 1", error_class)
                self.bad(f"f = let {{ g = {first} ; h :: Int ; h = {second} }} in 1", error_class)
                self.bad(f"f = let {{ g = let {{ h = {first} }} in {second} }} in 1", error_class)
                self.bad(f"f = [g, {first}]\ng = case f of {{ x -> {second} }}", error_class)
                self.bad(f"f :: List Int\nf = [{first}, {second}]", error_class)
                self.bad(f"instance D Bool where {{ d x = {first} == {second} }}", error_class, "D.Bool.d")

    def test_a_signature_that_is_too_general_ahead_of_needs(self):
        self.bad("f :: a -> Int\nf x = c A + x", IllTyped)
        self.bad("f x = let { g :: a -> a ; g y = if c A == c (make 1) then x else y } in 1", IllTyped)

    def test_main(self):
        self.bad("main = if c A == 1 then 1 else 2", IllTyped, "main")
        self.bad("main = [c A]", NoInstance, "main")
        self.bad("main = [c (make 1)]", Ambiguous, "main")

    def test_the_errors(self):
        for text, error_class in (("main = 1", IllTyped), ("main = [d]", IllTyped)):
            with self.assertRaises(error_class) as held:
                infer_program(parse(CLASSES + DATA + text))
            self.assertIs(type(held.exception.name), str)
            self.assertIsNone(held.exception.__cause__)


class ChanceTest(unittest.TestCase):
    def test_another_reading(self):
        kinds = set()
        for seed in range(700):
            program = ProgramMaker(seed).program(seed % 4)
            check_scopes(program)
            expected = SlowTypes(program).program()
            try:
                found = dict(infer_program(program))
                kinds.add("good")
            except KindError as error:
                found = (type(error).__name__, error.name)
                kinds.add(found[0])
            with self.subTest(seed):
                self.assertEqual(found, expected)
        self.assertEqual(len(kinds), 4)


def nested(step, tree, times=200):
    for k in range(times):
        tree = step(tree, k)
    return tree


def define(name, *rest):
    return ("define", name, rest[:-1], rest[-1])


LIST_INT = ("con", "List", (("con", "Int", ()),))
EMPTY = ("list", ())

# Expressions of the type List Int, 200 deep in each of the places where an expression may stand.
DEEP = {
    "function": nested(lambda tree, k: ("app", tree, ("num", k)), ("var", "many"), 199),
    "argument": nested(lambda tree, k: ("app", ("var", "id"), tree), EMPTY),
    "left": ("list", (nested(lambda tree, k: ("op", "-", tree, ("num", 1)), ("num", 1), 199),)),
    "right": nested(lambda tree, k: ("op", ":", ("num", 1), tree), EMPTY),
    "lambda": ("app", ("var", "skip"), nested(lambda tree, k: ("lam", (f"x{k}", f"y{k}"), tree), ("var", "x3"), 198)),
    "let body": nested(lambda tree, k: ("let", (define(f"v{k}", EMPTY),), tree), EMPTY),
    "definition": nested(lambda tree, k: ("let", (define(f"v{k}", "p", tree),), ("app", ("var", f"v{k}"), EMPTY)), EMPTY),
    "signed": nested(lambda tree, k: ("let", (("sign", f"v{k}", (("K", "a"),), ("fun", ("name", "a"), LIST_INT)),
                                              define(f"v{k}", "p", tree)), ("app", ("var", f"v{k}"), ("num", 1))),
                     EMPTY),
    "examined": nested(lambda tree, k: ("case", tree, ((("pcon", "Nil", ()), EMPTY), (("pname", "z"), ("var", "z")))),
                       EMPTY),
    "alternative": nested(lambda tree, k: ("case", ("num", k), ((("pnum", 2), EMPTY), (("pname", f"z{k}"), tree))), EMPTY),
    "condition": nested(lambda tree, k: ("if", ("con", "True"), tree, EMPTY), EMPTY),
    "list": ("app", ("var", "skip"), nested(lambda tree, k: ("list", (tree,)), ("num", 1), 198)),
    "note": nested(lambda tree, k: ("note", k, tree), EMPTY),
    "needs": ("list", (("app", ("var", "k"), nested(lambda tree, k: ("list", (tree,)), ("num", 1), 197)),)),
}
AROUND = parse("class K a where { k :: a -> Int }\ninstance K Int where { k n = 1 }\n"
               "instance K a => K (List a) where { k xs = 1 }\n"
               "id x = x\nskip :: a -> List Int\nskip x = []\nmany :: a\nmany = many\n")


class DeepTest(unittest.TestCase):
    def test_deep_trees(self):
        for name, tree in DEEP.items():
            with self.subTest(name):
                self.assertIn(("main", ((), (), LIST_INT)), infer_program((*AROUND, define("main", tree))))

    def test_deep_types(self):
        kind = nested(lambda kind, k: ("fun", kind, ("con", "Int", ())), ("name", "a"))
        program = (*AROUND, ("sign", "f", (), kind), define("f", ("var", "many")), define("g", ("var", "f")),
                   define("main", EMPTY))
        self.assertEqual(dict(infer_program(program))["g"], (("a",), (), kind))

    def test_many_definitions(self):
        program = tuple(define(f"f{k}", ("var", f"f{k + 1}")) for k in range(500)) + (define("f500", "x", ("var", "x")),)
        found = dict(infer_program((*program, define("main", EMPTY))))
        self.assertEqual(shown(found["f0"]), "a -> a")

    def test_arguments_stay(self):
        program = parse(DATA + CLASSES + "f x = let { g y = c x } in g\n" + MAIN)
        infer_program(program)
        self.assertEqual(program, parse(DATA + CLASSES + "f x = let { g y = c x } in g\n" + MAIN))
        self.assertEqual(infer_program(program), infer_program(program))
        self.assertEqual(parse_expr("x"), ("var", "x"))


if __name__ == "__main__":
    unittest.main()

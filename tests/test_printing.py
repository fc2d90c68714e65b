"""Printing: points 2.7 and 2.8."""

import unittest

from needonce.parser import parse, parse_expr, parse_kind
from needonce.printing import print_declaration, print_expr, print_kind, print_program

A, B, C = ("var", "a"), ("var", "b"), ("var", "c")

# An expression of each level, with its text.
LEVELS = (
    (0, ("lam", ("x",), A), "\\x -> a"),
    (0, ("let", (), A), "let { } in a"),
    (0, ("if", A, B, C), "if a then b else c"),
    (0, ("case", A, ((("pname", "x"), B),)), "case a of { x -> b }"),
    (0, ("note", 1, A), "note 1 a"),
    (1, ("op", "==", A, B), "a == b"),
    (1, ("op", "<", A, B), "a < b"),
    (1, ("op", "<=", A, B), "a <= b"),
    (2, ("op", ":", A, B), "a : b"),
    (3, ("op", "+", A, B), "a + b"),
    (3, ("op", "-", A, B), "a - b"),
    (4, ("op", "*", A, B), "a * b"),
    (4, ("op", "div", A, B), "a div b"),
    (4, ("op", "mod", A, B), "a mod b"),
    (5, ("app", A, B), "a b"),
    (6, ("var", "a"), "a"),
    (6, ("con", "A"), "A"),
    (6, ("num", 10), "10"),
    (6, ("list", ()), "[]"),
    (6, ("list", (A, B)), "[a, b]"),
)

# Each place: what it needs, the tree around an expression, the text around its text.
PLACES = (
    (0, lambda e: ("lam", ("x", "y"), e), "\\x y -> {}"),
    (0, lambda e: ("let", (("define", "f", ("x",), e),), A), "let {{ f x = {} }} in a"),
    (0, lambda e: ("let", (), e), "let {{ }} in {}"),
    (0, lambda e: ("if", e, A, B), "if {} then a else b"),
    (0, lambda e: ("if", A, e, B), "if a then {} else b"),
    (0, lambda e: ("if", A, B, e), "if a then b else {}"),
    (0, lambda e: ("case", e, ((("pnum", 1), A),)), "case {} of {{ 1 -> a }}"),
    (0, lambda e: ("case", A, ((("pnum", 1), e), (("pnum", 2), B))), "case a of {{ 1 -> {} ; 2 -> b }}"),
    (0, lambda e: ("note", 7, e), "note 7 {}"),
    (2, lambda e: ("op", "==", e, A), "{} == a"),
    (2, lambda e: ("op", "==", A, e), "a == {}"),
    (2, lambda e: ("op", "<", e, A), "{} < a"),
    (2, lambda e: ("op", "<", A, e), "a < {}"),
    (2, lambda e: ("op", "<=", e, A), "{} <= a"),
    (2, lambda e: ("op", "<=", A, e), "a <= {}"),
    (3, lambda e: ("op", ":", e, A), "{} : a"),
    (2, lambda e: ("op", ":", A, e), "a : {}"),
    (3, lambda e: ("op", "+", e, A), "{} + a"),
    (4, lambda e: ("op", "+", A, e), "a + {}"),
    (3, lambda e: ("op", "-", e, A), "{} - a"),
    (4, lambda e: ("op", "-", A, e), "a - {}"),
    (4, lambda e: ("op", "*", e, A), "{} * a"),
    (5, lambda e: ("op", "*", A, e), "a * {}"),
    (4, lambda e: ("op", "div", e, A), "{} div a"),
    (5, lambda e: ("op", "div", A, e), "a div {}"),
    (4, lambda e: ("op", "mod", e, A), "{} mod a"),
    (5, lambda e: ("op", "mod", A, e), "a mod {}"),
    (5, lambda e: ("app", e, A), "{} a"),
    (6, lambda e: ("app", A, e), "a {}"),
    (0, lambda e: ("list", (e,)), "[{}]"),
    (0, lambda e: ("list", (A, e, B)), "[a, {}, b]"),
)

KIND_LEVELS = (
    (0, ("fun", ("name", "a"), ("name", "b")), "a -> b"),
    (1, ("con", "A", (("name", "a"), ("con", "B", ()))), "A a B"),
    (2, ("con", "A", ()), "A"),
    (2, ("name", "a"), "a"),
)

KIND_PLACES = (
    (0, lambda t: t, "{}"),
    (1, lambda t: ("fun", t, ("name", "c")), "{} -> c"),
    (0, lambda t: ("fun", ("name", "c"), t), "c -> {}"),
    (2, lambda t: ("con", "C", (t,)), "C {}"),
    (2, lambda t: ("con", "C", (("name", "c"), t, ("name", "d"))), "C c {} d"),
)


def in_parentheses_if(needed, text):
    return f"({text})" if needed else text


class ExpressionsTest(unittest.TestCase):
    def test_the_example(self):
        self.assertEqual(print_expr(parse_expr("f (g x) (1 + 2) : []")), "f (g x) (1 + 2) : []")

    def test_each_expression_alone(self):
        for _, tree, text in LEVELS:
            self.assertEqual(print_expr(tree), text)

    def test_each_expression_at_each_place(self):
        for level, inner, inner_text in LEVELS:
            for need, around, around_text in PLACES:
                text = around_text.format(in_parentheses_if(level < need, inner_text))
                self.assertEqual(print_expr(around(inner)), text)
                self.assertEqual(parse_expr(text), around(inner))

    def test_bodies_of_definitions(self):
        for _, tree, text in LEVELS:
            self.assertEqual(print_declaration(("define", "f", ("x",), tree)), f"f x = {text}")

    def test_lets(self):
        tree = parse_expr("let\n f :: (A a) => a\n g x y = f\n in g")
        self.assertEqual(print_expr(tree), "let { f :: A a => a ; g x y = f } in g")

    def test_patterns(self):
        tree = parse_expr("case a of\n x : xs -> 1\n [] -> 2\n A -> 3\n B x y -> 4\n 12 -> 5\n z -> 6")
        self.assertEqual(print_expr(tree),
                         "case a of { Cons x xs -> 1 ; Nil -> 2 ; A -> 3 ; B x y -> 4 ; 12 -> 5 ; z -> 6 }")

    def test_spaces(self):
        self.assertEqual(print_expr(parse_expr("( \\ x  y->( [ ] ))")), "\\x y -> []")
        self.assertEqual(print_expr(parse_expr("[[ ],[a ,( \\ x->[b])]]")), "[[], [a, \\x -> [b]]]")
        self.assertEqual(print_expr(parse_expr("f(\\x->(g(h i))+[])")), "f (\\x -> g (h i) + [])")


class KindsTest(unittest.TestCase):
    def test_each_type_at_each_place(self):
        for level, inner, inner_text in KIND_LEVELS:
            for need, around, around_text in KIND_PLACES:
                text = around_text.format(in_parentheses_if(level < need, inner_text))
                self.assertEqual(print_kind(around(inner)), text)
                self.assertEqual(parse_kind(text), around(inner))

    def test_types_of_signatures(self):
        for _, tree, text in KIND_LEVELS:
            self.assertEqual(print_declaration(("sign", "f", (), tree)), f"f :: {text}")

    def test_types_of_methods(self):
        for _, tree, text in KIND_LEVELS:
            self.assertEqual(print_declaration(("class", "A", "a", (("f", tree),))),
                             f"class A a where {{ f :: {text} }}")

    def test_types_of_constructors(self):
        for level, tree, text in KIND_LEVELS:
            self.assertEqual(print_declaration(("data", "A", (), (("B", (tree, tree)),))),
                             "data A = B {0} {0}".format(in_parentheses_if(level < 2, text)))


class DeclarationsTest(unittest.TestCase):
    def test_each_form(self):
        for text in ("data A = B", "data A a b = B a (A b a) (a -> b) | C | D Int",
                     "class A a where { }", "class A a where { f :: a }", "class A a where { f :: a ; g :: a -> B }",
                     "instance A B where { }", "instance A (B a b) where { f = a ; g x y = b }",
                     "instance C a => A (B a) where { }", "instance (C a, D b) => A (B a b) where { }",
                     "instance (C a, D b, C b) => A (B a b) where { }",
                     "f :: a", "f :: A a => a", "f :: (A a, B a) => a -> b", "f = a", "f x y = a b"):
            with self.subTest(text):
                self.assertEqual(print_declaration(parse(text)[0]), text)

    def test_other_forms_of_the_same_trees(self):
        for text, wanted in (("instance (C a) => A (B) where", "instance C a => A B where { }"),
                             ("f::(A a)=>(a)", "f :: A a => a"),
                             ("class A a where\n  f::(a)", "class A a where { f :: a }"),
                             ("data A=B(a)|C", "data A = B a | C")):
            self.assertEqual(print_declaration(parse(text)[0]), wanted)

    def test_programs(self):
        self.assertEqual(print_program(()), "")
        self.assertEqual(print_program(parse("f=a\ndata A=B")), "f = a\ndata A = B\n")


class DepthTest(unittest.TestCase):
    def check_expr(self, around, many=200):
        tree = A
        for _ in range(many - 1):
            tree = around(tree)
        text = print_expr(tree)
        self.assertEqual(print_declaration(("define", "f", (), tree)), "f = " + text)

    def test_deep_expressions(self):
        for _, around, _ in PLACES:
            self.check_expr(around)

    def test_deep_types(self):
        for _, around, _ in KIND_PLACES[1:]:
            tree = ("name", "a")
            for _ in range(199):
                tree = around(tree)
            text = print_kind(tree)
            self.assertEqual(print_declaration(("sign", "f", (), tree)), "f :: " + text)

    def test_deep_texts_of_sixty_levels(self):
        for need, around, _ in PLACES:
            tree = A
            for _ in range(59):
                tree = around(tree)
            self.assertEqual(parse_expr(print_expr(tree)), tree, need)


if __name__ == "__main__":
    unittest.main()

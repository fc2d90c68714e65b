"""Declarations, types and expressions as trees: points 2.1 to 2.6."""

import unittest

from needonce.errors import BadCharacter, BadNumber, Unexpected
from needonce.parser import parse, parse_expr, parse_kind


def var(name):
    return ("var", name)


def num(number):
    return ("num", number)


def app(first, *arguments):
    tree = first
    for argument in arguments:
        tree = ("app", tree, argument)
    return tree


A, B, C, D = (var(name) for name in "abcd")
INT = ("con", "Int", ())


class ProgramsTest(unittest.TestCase):
    def test_the_example(self):
        self.assertEqual(parse("f x = x + 1"), (("define", "f", ("x",), ("op", "+", var("x"), num(1))),))

    def test_empty_programs(self):
        for text in ("", "\n\n", "-- nothing", "{ }", "{ ; ; }", "{\n}\n"):
            self.assertEqual(parse(text), ())

    def test_declarations_in_order(self):
        text = "a = b\ndata C = C\nb = a"
        found = parse(text)
        self.assertEqual([declaration[:2] for declaration in found],
                         [("define", "a"), ("data", "C"), ("define", "b")])
        self.assertIs(type(found), tuple)

    def test_members_may_be_left_out(self):
        self.assertEqual(parse("{ ; a = b ; ; a = c ; }"), (("define", "a", (), B), ("define", "a", (), C)))
        self.assertEqual(parse("a = b\n;\na = c"), (("define", "a", (), B), ("define", "a", (), C)))

    def test_names_are_not_checked(self):
        self.assertEqual(parse("f x x = y\nf = f"), (("define", "f", ("x", "x"), var("y")),
                                                     ("define", "f", (), var("f"))))


class DeclarationsTest(unittest.TestCase):
    def check(self, text, tree):
        with self.subTest(text):
            self.assertEqual(parse(text), (tree,))

    def test_data(self):
        self.check("data A = B", ("data", "A", (), (("B", ()),)))
        self.check("data A a b = B a | C | D (A b) Int b",
                   ("data", "A", ("a", "b"), (
                       ("B", (("name", "a"),)), ("C", ()),
                       ("D", (("con", "A", (("name", "b"),)), INT, ("name", "b"))))))
        self.check("data A = B (a -> b) A B", ("data", "A", (), (
            ("B", (("fun", ("name", "a"), ("name", "b")), ("con", "A", ()), ("con", "B", ()))),)))

    def test_class(self):
        self.check("class A a where { }", ("class", "A", "a", ()))
        self.check("class A a where", ("class", "A", "a", ()))
        self.check("class A a where { ; f :: a ; ; g :: a -> B a ; }",
                   ("class", "A", "a", (("f", ("name", "a")),
                                        ("g", ("fun", ("name", "a"), ("con", "B", (("name", "a"),)))))))
        self.check("class A b where\n  f :: Int\n  g :: b",
                   ("class", "A", "b", (("f", INT), ("g", ("name", "b")))))

    def test_instance(self):
        self.check("instance A B where { }", ("instance", (), "A", "B", (), ()))
        self.check("instance A B where", ("instance", (), "A", "B", (), ()))
        self.check("instance A (B) where", ("instance", (), "A", "B", (), ()))
        self.check("instance A (B a b) where", ("instance", (), "A", "B", ("a", "b"), ()))
        self.check("instance C a => A (B a) where", ("instance", (("C", "a"),), "A", "B", ("a",), ()))
        self.check("instance (C a) => A B where", ("instance", (("C", "a"),), "A", "B", (), ()))
        self.check("instance (C a, D b) => A (B a b) where",
                   ("instance", (("C", "a"), ("D", "b")), "A", "B", ("a", "b"), ()))
        self.check("instance A B where\n  f = a\n  g x y = b",
                   ("instance", (), "A", "B", (), (("f", (), A), ("g", ("x", "y"), B))))
        self.check("instance A B where { ; f = a ; ; }", ("instance", (), "A", "B", (), (("f", (), A),)))

    def test_sign(self):
        self.check("f :: a", ("sign", "f", (), ("name", "a")))
        self.check("f :: A a => a", ("sign", "f", (("A", "a"),), ("name", "a")))
        self.check("f :: (A a) => a", ("sign", "f", (("A", "a"),), ("name", "a")))
        self.check("f :: (A a, B b, A a) => a -> b",
                   ("sign", "f", (("A", "a"), ("B", "b"), ("A", "a")), ("fun", ("name", "a"), ("name", "b"))))

    def test_define(self):
        self.check("f = a", ("define", "f", (), A))
        self.check("f x y' = a", ("define", "f", ("x", "y'"), A))

    def test_a_context_belongs_to_its_own_declaration(self):
        self.assertEqual(parse("f :: A a\ng :: A a => a"), (
            ("sign", "f", (), ("con", "A", (("name", "a"),))), ("sign", "g", (("A", "a"),), ("name", "a"))))
        self.assertEqual(parse("{ f :: A a ; g :: A a => a }"), (
            ("sign", "f", (), ("con", "A", (("name", "a"),))), ("sign", "g", (("A", "a"),), ("name", "a"))))


class KindsTest(unittest.TestCase):
    def check(self, text, tree):
        with self.subTest(text):
            self.assertEqual(parse_kind(text), tree)
            self.assertEqual(parse(f"f :: {text}"), (("sign", "f", (), tree),))

    def test_names_and_constructors(self):
        self.check("a", ("name", "a"))
        self.check("A", ("con", "A", ()))
        self.check("A a B", ("con", "A", (("name", "a"), ("con", "B", ()))))
        self.check("A (B a) C", ("con", "A", (("con", "B", (("name", "a"),)), ("con", "C", ()))))

    def test_functions_group_to_the_right(self):
        a, b, c = ("name", "a"), ("name", "b"), ("name", "c")
        self.check("a -> b", ("fun", a, b))
        self.check("a -> b -> c", ("fun", a, ("fun", b, c)))
        self.check("(a -> b) -> c", ("fun", ("fun", a, b), c))
        self.check("A a -> B", ("fun", ("con", "A", (a,)), ("con", "B", ())))
        self.check("A (a -> b)", ("con", "A", (("fun", a, b),)))

    def test_parentheses_leave_no_trace(self):
        self.check("((a))", ("name", "a"))
        self.check("(A) -> ((B) )", ("fun", ("con", "A", ()), ("con", "B", ())))


class ExpressionsTest(unittest.TestCase):
    def check(self, text, tree):
        with self.subTest(text):
            self.assertEqual(parse_expr(text), tree)
            self.assertEqual(parse(f"f = {text}"), (("define", "f", (), tree),))

    def test_atoms(self):
        self.check("a", A)
        self.check("Con'", ("con", "Con'"))
        self.check("0", num(0))
        self.check("1000000000000", num(10 ** 12))
        self.check("(a)", A)
        self.check("((a))", A)

    def test_lists(self):
        self.check("[]", ("list", ()))
        self.check("[ ]", ("list", ()))
        self.check("[a]", ("list", (A,)))
        self.check("[a, b + 1, [c]]", ("list", (A, ("op", "+", B, num(1)), ("list", (C,)))))
        self.check("[\\x -> a, note 1 b]", ("list", (("lam", ("x",), A), ("note", 1, B))))

    def test_applications(self):
        self.check("a b", app(A, B))
        self.check("a b c d", app(A, B, C, D))
        self.check("a (b c) D", app(A, app(B, C), ("con", "D")))
        self.check("A [b] 3 c", app(("con", "A"), ("list", (B,)), num(3), C))
        self.check("(\\x -> a) b", app(("lam", ("x",), A), B))
        self.check("3 a", app(num(3), A))

    def test_operators_that_group_to_the_left(self):
        for sign in ("+", "-", "*", "div", "mod"):
            self.check(f"a {sign} b", ("op", sign, A, B))
            self.check(f"a {sign} b {sign} c", ("op", sign, ("op", sign, A, B), C))
        self.check("a + b - c + d", ("op", "+", ("op", "-", ("op", "+", A, B), C), D))
        self.check("a * b div c mod d", ("op", "mod", ("op", "div", ("op", "*", A, B), C), D))

    def test_the_operator_that_groups_to_the_right(self):
        self.check("a : b", ("op", ":", A, B))
        self.check("a : b : c : d", ("op", ":", A, ("op", ":", B, ("op", ":", C, D))))

    def test_comparisons(self):
        for sign in ("==", "<", "<="):
            self.check(f"a {sign} b", ("op", sign, A, B))
            self.check(f"(a {sign} b) {sign} c", ("op", sign, ("op", sign, A, B), C))
            self.check(f"a {sign} (b {sign} c)", ("op", sign, A, ("op", sign, B, C)))

    def test_levels_of_operators(self):
        self.check("a + b * c", ("op", "+", A, ("op", "*", B, C)))
        self.check("a * b + c", ("op", "+", ("op", "*", A, B), C))
        self.check("(a + b) * c", ("op", "*", ("op", "+", A, B), C))
        self.check("a - b mod c - d", ("op", "-", ("op", "-", A, ("op", "mod", B, C)), D))
        self.check("a + b : c - d", ("op", ":", ("op", "+", A, B), ("op", "-", C, D)))
        self.check("a : b == c : d", ("op", "==", ("op", ":", A, B), ("op", ":", C, D)))
        self.check("a < b + c", ("op", "<", A, ("op", "+", B, C)))
        self.check("a b * c d", ("op", "*", app(A, B), app(C, D)))
        self.check("a div b <= c : d * a + b",
                   ("op", "<=", ("op", "div", A, B), ("op", ":", C, ("op", "+", ("op", "*", D, A), B))))

    def test_lambdas(self):
        self.check("\\x -> a", ("lam", ("x",), A))
        self.check("\\x y x -> a b", ("lam", ("x", "y", "x"), app(A, B)))
        self.check("\\x -> \\y -> a", ("lam", ("x",), ("lam", ("y",), A)))
        self.check("\\x -> a + b", ("lam", ("x",), ("op", "+", A, B)))

    def test_lets(self):
        self.check("let { a = b } in c", ("let", (("define", "a", (), B),), C))
        self.check("let a = b in c", ("let", (("define", "a", (), B),), C))
        self.check("let { } in c", ("let", (), C))
        self.check("let in c", ("let", (), C))
        self.check("let { ; ; } in c", ("let", (), C))
        self.check("let { f x = b ; f :: A a => a } in c + d",
                   ("let", (("define", "f", ("x",), B), ("sign", "f", (("A", "a"),), ("name", "a"))),
                    ("op", "+", C, D)))
        self.check("let a = let b = c in d in a", ("let", (("define", "a", (), ("let", (("define", "b", (), C),), D)),),
                                                   A))

    def test_ifs(self):
        self.check("if a then b else c", ("if", A, B, C))
        self.check("if a then b else c + d", ("if", A, B, ("op", "+", C, D)))
        self.check("if if a then b else c then d else if a then b else c",
                   ("if", ("if", A, B, C), D, ("if", A, B, C)))

    def test_cases(self):
        self.check("case a of { A -> b }", ("case", A, ((("pcon", "A", ()), B),)))
        self.check("case a of A -> b", ("case", A, ((("pcon", "A", ()), B),)))
        self.check("case a b of { ; A -> b ; ; B -> c ; }",
                   ("case", app(A, B), ((("pcon", "A", ()), B), (("pcon", "B", ()), C))))

    def test_patterns(self):
        for text, pattern in (("A", ("pcon", "A", ())), ("A x y", ("pcon", "A", ("x", "y"))), ("0", ("pnum", 0)),
                              ("1000000000000", ("pnum", 10 ** 12)), ("x", ("pname", "x")),
                              ("x : xs", ("pcon", "Cons", ("x", "xs"))), ("x : x", ("pcon", "Cons", ("x", "x"))),
                              ("[]", ("pcon", "Nil", ())), ("[ ]", ("pcon", "Nil", ())), ("Nil", ("pcon", "Nil", ())),
                              ("Cons x xs", ("pcon", "Cons", ("x", "xs")))):
            self.check(f"case a of {{ {text} -> b }}", ("case", A, ((pattern, B),)))

    def test_notes(self):
        self.check("note 5 a", ("note", 5, A))
        self.check("note 0 a + b", ("note", 0, ("op", "+", A, B)))
        self.check("note 1 note 2 a", ("note", 1, ("note", 2, A)))

    def test_forms_extend_as_far_as_possible(self):
        self.check("\\x -> if a then b else let c = d in case a of A -> note 1 b == c",
                   ("lam", ("x",), ("if", A, B, ("let", (("define", "c", (), D),), ("case", A, (
                       (("pcon", "A", ()), ("note", 1, ("op", "==", B, C))),))))))

    def test_numbers_and_booleans(self):
        found = parse_expr("note 1 1")
        self.assertIs(type(found[1]), int)
        self.assertIs(type(found[2][1]), int)


class OwnTextsTest(unittest.TestCase):
    """parse_expr and parse_kind read texts as if these stood in explicit braces."""

    def test_rows_have_no_block_around_them(self):
        self.assertEqual(parse_expr("a\nb\n  c"), app(A, B, C))
        self.assertEqual(parse_expr("   a\n b\nc"), app(A, B, C))
        self.assertEqual(parse_kind("a\n->\nb"), ("fun", ("name", "a"), ("name", "b")))

    def test_inner_blocks(self):
        self.assertEqual(parse_expr("case a of\nA -> b\nB -> c"),
                         ("case", A, ((("pcon", "A", ()), B), (("pcon", "B", ()), C))))
        self.assertEqual(parse_expr("let\na = b\nin c"), ("let", (("define", "a", (), B),), C))

    def test_a_brace_that_would_close_the_outer_ones(self):
        for read, text, column in ((parse_expr, "a }", 3), (parse_expr, "}", 1), (parse_expr, "case a of A -> b }", 18),
                                   (parse_expr, "case a of { A -> b } }", 22), (parse_expr, "(a }", 4),
                                   (parse_expr, "case a of A -> case b of B -> c } }", 33),
                                   (parse_kind, "a }", 3), (parse_kind, "}", 1), (parse_kind, "A (b -> c) }", 12)):
            with self.subTest(text):
                with self.assertRaises(Unexpected) as caught:
                    read(text)
                self.assertEqual((caught.exception.row, caught.exception.column), (1, column))


class UnexpectedTest(unittest.TestCase):
    def check(self, text, row, column, read=parse):
        with self.subTest(text):
            with self.assertRaises(Unexpected) as caught:
                read(text)
            self.assertEqual((caught.exception.row, caught.exception.column), (row, column))

    def check_columns(self, read, rows):
        for text, column in rows:
            self.check(text, 1, column, read)

    def test_programs(self):
        self.check_columns(parse, (("A = b", 1), ("1 = b", 1), ("= b", 1), ("where", 1), ("a = b } c", 9), ("a = b } }", 9),
                                   ("{ a = b } c", 11), ("{ a = b", 8), ("{ a = b c = d }", 11), (") a", 1),
                                   ("let a = b in c", 1), ("f ; = a", 3)))

    def test_a_row_further_to_the_left(self):
        self.check("  a = b\n c = d", 2, 2)

    def test_data(self):
        self.check_columns(parse, (("data a = B", 6), ("data A", 7), ("data A B = C", 8), ("data A (b) = C", 8),
                                   ("data A =", 9), ("data A = b", 10), ("data A = B |", 13), ("data A = B | c", 14),
                                   ("data A = B b -> c", 14), ("data A = B => c", 12), ("data A = B 1", 12),
                                   ("data A = B (c", 14), ("data A = | B", 10), ("data A = B, C", 11),
                                   ("data A where B", 8), ("data A = B [c]", 12)))

    def test_class(self):
        self.check_columns(parse, (("class a b where", 7), ("class A where", 9), ("class A B where", 9),
                                   ("class A a b where", 11), ("class A a", 10), ("class A a = b", 11),
                                   ("class A a where f = b", 19), ("class A a where f x :: a", 19),
                                   ("class A a where F :: a", 17), ("class A a where f :: A a => a", 26),
                                   ("class A a where f", 18), ("class A a => B a where", 11)))

    def test_instance(self):
        self.check_columns(parse, (("instance a B where", 10), ("instance A b where", 12), ("instance A where", 12),
                                   ("instance A B C where", 14), ("instance A B a where", 14),
                                   ("instance A (b) where", 13), ("instance A (B C) where", 15),
                                   ("instance A (B a where", 17), ("instance A () where", 13), ("instance A B", 13),
                                   ("instance A B where f :: a", 22), ("instance A B where F = a", 20),
                                   ("instance A B where f x", 23), ("instance A [a] where", 12),
                                   ("instance A (B (a)) where", 15), ("instance A ((B)) where", 13)))

    def test_instance_contexts(self):
        self.check_columns(parse, (("instance C (D a) => A B where", 12), ("instance a => A B where", 10),
                                   ("instance () => A B where", 11), ("instance (C) => A B where", 12),
                                   ("instance (C a,) => A B where", 15), ("instance (C a, b) => A B where", 16),
                                   ("instance C a, D b => A B where", 13), ("instance C a b => A B where", 14),
                                   ("instance => A B where", 10), ("instance C a => D b => A B where", 19),
                                   ("instance C D => A B where", 12), ("instance ((C a)) => A B where", 11),
                                   ("instance (C a) A B => where", 16)))

    def test_a_context_without_its_sign_is_none(self):
        self.check_columns(parse, (("instance (C a) A B where", 10), ("instance C a A B where", 12),
                                   ("instance A B where = => a", 20), ("instance C a ; => A B where", 12)))

    def test_sign(self):
        self.check_columns(parse, (("f ::", 5), ("f :: 1", 6), ("f :: a b", 8), ("f :: a ->", 10), ("f :: -> a", 6),
                                   ("f :: (a", 8), ("f :: a)", 7), ("f x :: a", 5), ("f :: a = b", 8),
                                   ("f :: a where", 8), ("f :: ()", 7), ("f :: (a, b)", 8), ("f :: a :: b", 8)))

    def test_sign_contexts(self):
        self.check_columns(parse, (("f :: a => b", 6), ("f :: A => b", 8), ("f :: A a b => b", 10),
                                   ("f :: A a =>", 12), ("f :: A (a) => b", 8), ("f :: A a => B b => c", 17),
                                   ("f :: a -> A a => b", 6), ("f :: (A a, B) => c", 13), ("f :: () => c", 7),
                                   ("f :: => c", 6), ("f :: (A a => b)", 11), ("f :: ((A a)) => b", 7),
                                   ("f :: A a == b => c", 10)))

    def test_a_sign_of_a_context_behind_the_next_bound(self):
        self.check_columns(parse, (("f :: (A a, B b) = => c", 10), ("f :: (A a, B b) ; => c", 10),
                                   ("f :: (A a, B b) where => c", 10), ("f :: (A a, B b) { => c", 10),
                                   ("f :: (A a, B b) } => c", 10)))
        self.check("f :: (A a, B b)\n=> c", 1, 10)
        self.check("f :: (A a, B b)\n  => c ->\n", 3, 1)

    def test_define(self):
        self.check_columns(parse, (("f", 2), ("f x", 4), ("f =", 4), ("f = = a", 5), ("f X = a", 3), ("f 1 = a", 3),
                                   ("f (x) = a", 3), ("f = a = b", 7), ("f = a -> b", 7), ("f = a | b", 7),
                                   ("f = where", 5), ("f = a where", 7), ("f = a :: b", 7)))

    def test_types(self):
        self.check_columns(parse_kind, (("", 1), ("1", 1), ("[a]", 1), ("a a", 3), ("a A", 3), ("(A) a", 5),
                                        ("a (b)", 3), ("(a", 3), ("a)", 2), ("()", 2), ("a -> -> b", 6), ("a ->", 5),
                                        ("A -> 1", 6), ("a => b", 3), ("a = b", 3), ("a ; b", 3), ("A let", 3),
                                        ("A [b]", 3), ("(a, b)", 3)))

    def test_operators(self):
        self.check_columns(parse_expr, (("", 1), ("+ a", 1), ("a +", 4), ("a + + b", 5), ("- 1", 1), ("a * - b", 5),
                                        ("a == b == c", 8), ("a < b <= c", 7), ("a == b : c < d", 12), ("a : : b", 5),
                                        ("a :", 4), ("a div", 6), ("div a", 1), ("a div mod b", 7), ("a = b", 3),
                                        ("a + \\x -> b", 5), ("a + if b then c else d", 5), ("a == let in b", 6),
                                        ("a : case b of C -> d", 5), ("a * note 1 b", 5)))

    def test_applications(self):
        self.check_columns(parse_expr, (("a \\x -> b", 3), ("a let b = c in d", 3), ("a if b then c else d", 3),
                                        ("a case b of C -> d", 3), ("a note 1 b", 3), ("a , b", 3), ("a ; b", 3),
                                        ("a -> b", 3), ("a data", 3), ("a { b }", 3), ("a in b", 3)))

    def test_brackets(self):
        self.check_columns(parse_expr, (("(", 2), ("()", 2), ("(a", 3), ("(a, b)", 3), ("(a]", 3), ("a)", 2),
                                        ("[", 2), ("[a", 3), ("[a,", 4), ("[a,]", 4), ("[,]", 2), ("[a b", 5),
                                        ("[a)", 3), ("a]", 2), ("[a;b]", 3), ("(a + )", 6)))

    def test_lambdas(self):
        self.check_columns(parse_expr, (("\\", 2), ("\\ -> a", 3), ("\\x", 3), ("\\x = a", 4), ("\\X -> a", 2),
                                        ("\\x 1 -> a", 4), ("\\(x) -> a", 2), ("\\x ->", 6), ("\\x -> -> a", 7)))

    def test_lets(self):
        self.check_columns(parse_expr, (("let", 4), ("let a = b", 10), ("let { a = b }", 14), ("let { a = b in c", 13),
                                        ("let { a } in c", 9), ("let A = b in c", 5), ("let { data A = B } in c", 7),
                                        ("let a = b in", 13), ("let a = b, c = d in e", 10), ("let a = in c", 9),
                                        ("let { a = b c = d } in e", 15), ("let { a :: } in e", 12),
                                        ("let { a = b ; ; in } c", 17)))

    def test_ifs(self):
        self.check_columns(parse_expr, (("if", 3), ("if then a else b", 4), ("if a b", 7), ("if a then", 10),
                                        ("if a else b then c", 6), ("if a then b", 12), ("if a then b else", 17),
                                        ("if a then else b", 11), ("then a", 1), ("else a", 1)))

    def test_cases(self):
        self.check_columns(parse_expr, (("case", 5), ("case of A -> b", 6), ("case a", 7), ("case a A -> b", 10),
                                        ("case a of", 10), ("case a of { }", 13), ("case a of { ; ; }", 17),
                                        ("case a of { A }", 15), ("case a of { A = b }", 15),
                                        ("case a of { A -> }", 18), ("case a of { A -> b B -> c }", 22),
                                        ("case a of { A -> b", 19), ("case a of { A -> b , B -> c }", 20),
                                        ("case a of { -> b }", 13)))

    def test_a_case_without_alternatives_in_a_program(self):
        self.check("f = case a of\ng = b", 2, 1)
        self.check("f = case a of\n  \n", 3, 1)

    def test_patterns(self):
        self.check_columns(parse_expr, tuple(
            (f"case a of {{ {pattern} -> b }}", 12 + column) for pattern, column in (
                ("A 1", 3), ("A B", 3), ("A (x)", 3), ("1 x", 3), ("x y", 3), ("x : 1", 5), ("x : y : z", 7),
                ("x :", 5), ("1 : x", 3), ("A : x", 3), ("[x]", 2), ("[] x", 4), ("(x)", 1), ("(A x)", 1),
                ("-1", 1), ("[", 3), ("x : A", 5), ("[] : x", 4), ("let", 1), ("x + 1", 3), ("x == y", 3))))

    def test_notes(self):
        self.check_columns(parse_expr, (("note", 5), ("note a b", 6), ("note 1", 7), ("note (1) a", 6),
                                        ("note -1 a", 6), ("note note 1 a", 6), ("note 1 ; a", 8)))

    def test_at_added_tokens(self):
        self.check("f =\ng = a", 2, 1)
        self.check("f = (a\n", 2, 1)
        self.check("f = a +\ng = b", 2, 1)
        self.check("f = let x = 1\ng = b", 2, 1)
        self.check("class A a where\n  f ::\n  g :: a", 3, 3)
        self.check("f = [a, b\n    ,\nc]\ng = (", 4, 6)
        self.check("f = case a of\n  A -> b\n  c d -> e", 3, 5)
        self.check("f = case a of A ->\ng = b", 2, 1)

    def test_keywords_are_no_names(self):
        for word in ("data", "class", "instance", "where", "let", "in", "case", "of", "if", "then", "else", "div",
                     "mod", "note"):
            self.check(f"f {word} = a", 1, 3)

    def test_errors_of_tokens_come_first(self):
        for text, error_class, row, column in (("f = = 01", BadNumber, 1, 7), ("f = =\n%", BadCharacter, 2, 1),
                                               ("} 1x", BadNumber, 1, 3)):
            for read in (parse, parse_expr, parse_kind):
                with self.assertRaises(error_class) as caught:
                    read(text)
                self.assertEqual((caught.exception.row, caught.exception.column), (row, column))


class DepthTest(unittest.TestCase):
    def test_sixty_levels_and_more(self):
        for many in (60, 80):
            self.assertEqual(parse_expr("(" * many + "a" + ")" * many), A)
            self.assertEqual(parse_kind("(" * many + "a" + ")" * many), ("name", "a"))
            for left, right in (("[", "]"), ("f (", ")"), ("(1 + ", ")"), ("(\\x -> ", ")"), ("let x = ", " in x"),
                                ("if a then ", " else b"), ("case ", " of A -> b"), ("case a of A -> ", ""),
                                ("case a of { A -> ", " }"), ("note 1 ", ""), ("f (", ") a"), ("a : ", ""),
                                ("let { f x = ", " } in f"), ("(if a then b else [", "])")):
                with self.subTest(left):
                    text = left * many + "a" + right * many
                    self.assertEqual(parse(f"f = {text}"), (("define", "f", (), parse_expr(text)),))
            for left, right in (("A (", ")"), ("(a -> ", ")"), ("(", ") -> a"), ("A (b -> ", ")")):
                with self.subTest(left):
                    text = left * many + "a" + right * many
                    self.assertEqual(parse(f"f :: {text}"), (("sign", "f", (), parse_kind(text)),))

    def test_long_rows(self):
        for sign in ("+", ":", "*"):
            found = parse_expr(f" {sign} ".join(["a"] * 150))
            depth = 0
            while found[0] == "op":
                depth += 1
                found = found[2] if sign != ":" else found[3]
            self.assertEqual(depth, 149)
        self.assertEqual(parse_expr("f" + " a" * 150), app(var("f"), *[A] * 150))

    def test_many_declarations(self):
        self.assertEqual(len(parse("f = a\n" * 5000)), 5000)


if __name__ == "__main__":
    unittest.main()

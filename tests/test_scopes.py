"""Scopes: points 3.1 to 3.8."""

import unittest

from needonce.errors import DoubleName, MissingName, ScopeError, UnknownName, WrongCount
from needonce.parser import parse
from needonce.prelude import with_prelude
from needonce.scopes import BUILT_IN, check_scopes

MAIN = "main = []\n"
CLASSES = "class Eq a where { eq :: a -> a -> Bool ; ne :: a -> a }\nclass Ord a where { less :: a -> Bool }\n"
GOOD_EQ = "{ eq x y = True ; ne x = x }"


def outcome(program):
    try:
        return check_scopes(program)
    except ScopeError as error:
        return type(error), error.kind, error.name


class ScopesCase(unittest.TestCase):
    def good(self, *texts):
        for text in texts:
            with self.subTest(text):
                self.assertIsNone(outcome(parse(text)))

    def bad(self, text, error_class, kind, name):
        with self.subTest(text):
            self.assertEqual(outcome(parse(text)), (error_class, kind, name))

    def good_expr(self, *texts):
        self.good(*[f"{MAIN}f a b = {text}" for text in texts])

    def bad_expr(self, text, error_class, kind, name):
        """In a definition with the parameters a and b, in one without a main, and in a method of an instance."""
        self.bad(f"{MAIN}f a b = {text}", error_class, kind, name)
        self.bad(f"f a b = {text}", error_class, kind, name)
        self.bad(f"{MAIN}class K a where {{ k :: a -> a }}\ninstance K Int where {{ k a b = {text} }}\n",
                 error_class, kind, name)
        self.bad(f"{MAIN}f a b = [1, \\inner -> (note 2 ({text}) + 1) inner]", error_class, kind, name)

    def double(self, text, kind, name):
        self.bad(text, DoubleName, kind, name)

    def unknown(self, text, kind, name):
        self.bad(text, UnknownName, kind, name)

    def count(self, text, kind, name):
        self.bad(text, WrongCount, kind, name)

    def missing(self, text, kind, name):
        self.bad(text, MissingName, kind, name)


class BuiltInTest(ScopesCase):
    def test_the_declarations(self):
        self.assertEqual(BUILT_IN, parse("data Bool = False | True\ndata List a = Nil | Cons a (List a)"))

    def test_they_are_in_scope(self):
        self.good(MAIN + "f :: List Int -> Bool\nf x = case x of { Nil -> True ; Cons y ys -> False }")
        self.good(MAIN + "data A = A Int Bool (List A)\nf = [Nil, Cons, True, False]")

    def test_they_are_no_types_of_another_kind(self):
        self.unknown(MAIN + "f = Int", "constructor", "Int")
        self.unknown(MAIN + "f = Bool", "constructor", "Bool")
        self.unknown(MAIN + "f :: True\nf = 1", "type", "True")


class GoodTest(ScopesCase):
    def test_good_programs(self):
        self.good(MAIN, "main = main", "main x = x", "main = 1\nf = g\ng = f",
                  MAIN + CLASSES + f"instance Eq Int where {GOOD_EQ}\ninstance Ord Bool where {{ less x = x }}",
                  MAIN + CLASSES + f"instance (Eq a, Ord a) => Eq (List a) where {GOOD_EQ}",
                  MAIN + "data A a b = A a | B (A b a)\nf :: A Int c -> A c c\nf = f")

    def test_it_returns_none(self):
        self.assertIsNone(check_scopes(parse(MAIN)))

    def test_the_declarations_stay(self):
        text = MAIN + CLASSES + "f x = let { y :: Int ; y = x } in case y of { 1 -> \\z -> z }"
        program = parse(text)
        check_scopes(program)
        self.assertEqual(program, parse(text))

    def test_places_in_a_text_do_not_matter(self):
        self.good("f = g A\ng x = x\nf :: B\ndata B = A\ninstance C B where { m = f }\nclass C a where { m :: a }\n"
                  + MAIN)


class BoundNamesTest(ScopesCase):
    """Point 3.3."""

    def test_types(self):
        self.double(MAIN + "data A = B\ndata A = C", "type", "A")
        for name in ("Int", "Bool", "List"):
            self.double(f"{MAIN}data {name} = C", "type", name)

    def test_constructors(self):
        self.double(MAIN + "data A = B | B", "constructor", "B")
        self.double(MAIN + "data A = B\ndata C = D | B Int", "constructor", "B")
        for name in ("False", "True", "Nil", "Cons"):
            self.double(f"{MAIN}data A = {name}", "constructor", name)

    def test_classes(self):
        self.double(MAIN + "class A a where\nclass A b where", "class", "A")

    def test_values(self):
        self.double(MAIN + "f = 1\nf = 2", "value", "f")
        self.double(MAIN + "f = 1\ng = 2\nf x = 2", "value", "f")
        self.double(MAIN + MAIN, "value", "main")
        self.double(MAIN + "class A a where { f :: a ; f :: a }", "value", "f")
        self.double(MAIN + "class A a where { f :: a }\nclass B a where { f :: a }", "value", "f")
        self.double(MAIN + "class A a where { f :: a }\nf = 1", "value", "f")
        self.double(MAIN + "f = 1\nclass A a where { f :: a }", "value", "f")

    def test_signatures(self):
        self.double(MAIN + "f :: Int\nf :: Int\nf = 1", "signature", "f")
        self.double(MAIN + "f :: Int\nf = 1\nf :: Bool", "signature", "f")

    def test_instances(self):
        text = MAIN + CLASSES + f"instance Eq Int where {GOOD_EQ}\n"
        self.double(text + f"instance Eq Int where {GOOD_EQ}", "instance", "Eq Int")
        self.double(MAIN + CLASSES + "instance Eq a => Eq (List a) where\ninstance Eq (List b) where", "instance",
                    "Eq List")
        self.good(text + f"instance Eq Bool where {GOOD_EQ}\ninstance Ord Int where {{ less x = True }}")

    def test_different_kinds_are_different(self):
        self.good(MAIN + "data A = A\nclass A a where { a :: a }\ninstance A A where { a = A }\nf :: A\nf = A")
        self.good("main :: List main\nmain = []")

    def test_the_prelude(self):
        self.assertEqual(outcome(with_prelude(parse(MAIN + "map = 1"))), (DoubleName, "value", "map"))
        self.assertEqual(outcome(with_prelude(parse(MAIN + "data Pair = A"))), (DoubleName, "type", "Pair"))
        self.assertEqual(outcome(with_prelude(parse(MAIN + "data P = Pair"))), (DoubleName, "constructor", "Pair"))
        self.assertEqual(outcome(with_prelude(parse(MAIN + "id :: Int"))), (DoubleName, "signature", "id"))

    def test_the_first_one_from_the_left(self):
        self.double(MAIN + "f = 1\nf = 2\ndata Int = B", "value", "f")
        self.double(MAIN + "data Int = B\nf = 1\nf = 2", "type", "Int")
        self.double(MAIN + "data Int = True", "type", "Int")
        self.double(MAIN + "data A = True | True | Nil", "constructor", "True")
        self.double(MAIN + "data A = B | Nil | B", "constructor", "Nil")
        self.double(MAIN + "f = 1\nclass A a where\nclass A a where { f :: a }", "class", "A")
        self.double(MAIN + "class A a where { main :: a ; f :: a ; f :: a }", "value", "main")
        self.double(MAIN + "f :: Int\nf :: Int\ndata Int = A", "signature", "f")

    def test_before_all_else(self):
        self.double("f = x\nf = 2", "value", "f")
        self.double("data A a a = B C\nf = 1\nf = 2", "value", "f")
        self.double("g :: Int\nf = 1\nf = 2", "value", "f")
        self.double("instance A B where\ninstance A B where", "instance", "A B")


class DataTest(ScopesCase):
    def test_parameters(self):
        self.double(MAIN + "data A a a = B", "variable", "a")
        self.double(MAIN + "data A a b c b a = B", "variable", "b")
        self.good(MAIN + "data A a b = B")

    def test_types(self):
        self.unknown(MAIN + "data A = B C", "type", "C")
        self.unknown(MAIN + "data A = B a", "variable", "a")
        self.unknown(MAIN + "data A a = B a | C a | D b", "variable", "b")
        self.count(MAIN + "data A a = B A", "type", "A")
        self.good(MAIN + "data A a = B (A (A a)) | C (a -> List a)")

    def test_order(self):
        self.double(MAIN + "data A a a = B C", "variable", "a")
        self.unknown(MAIN + "data A a = B C | D E", "type", "C")
        self.unknown(MAIN + "data A a = B C b", "type", "C")
        self.unknown(MAIN + "data A a = B b C", "variable", "b")


class KindsTest(ScopesCase):
    """Point 3.5."""

    def test_type_constructors(self):
        self.unknown(MAIN + "f :: A\nf = 1", "type", "A")
        self.unknown(MAIN + "f :: List (Int -> A Int)\nf = 1", "type", "A")
        self.unknown(MAIN + CLASSES + "f :: Eq\nf = 1", "type", "Eq")

    def test_counts(self):
        for text, name in (("Int a", "Int"), ("List", "List"), ("List a b", "List"), ("Bool Int", "Bool"),
                           ("a -> List", "List"), ("A", "A"), ("A a", "A"), ("A a b c", "A"), ("List (A a)", "A")):
            self.count(f"{MAIN}data A a b = B\nf :: {text}\nf = 1", "type", name)

    def test_from_the_outside_to_the_inside(self):
        self.unknown(MAIN + "f :: A (B C)\nf = 1", "type", "A")
        self.unknown(MAIN + "f :: List (B C)\nf = 1", "type", "B")
        self.count(MAIN + "f :: List A B\nf = 1", "type", "List")
        self.count(MAIN + "f :: Int (List a b)\nf = 1", "type", "Int")
        self.count(MAIN + "f :: List (List Int (Bool a))\nf = 1", "type", "List")

    def test_from_left_to_right(self):
        self.unknown(MAIN + "f :: A -> B\nf = 1", "type", "A")
        self.count(MAIN + "f :: List -> B\nf = 1", "type", "List")
        self.unknown(MAIN + "data P a b = P\nf :: P (List A) B\nf = 1", "type", "A")
        self.unknown(MAIN + "f :: (Int -> A) -> B\nf = 1", "type", "A")
        self.unknown(MAIN + "data A a = B (List a) (a -> List (b -> C)) D", "variable", "b")


class ClassesTest(ScopesCase):
    def test_types_with_any_variables(self):
        self.good(MAIN + "class A a where { f :: a -> b -> List c }")
        self.unknown(MAIN + "class A a where { f :: a -> B }", "type", "B")
        self.count(MAIN + "class A a where { f :: a -> List }", "type", "List")

    def test_the_variable_of_the_class(self):
        self.missing(MAIN + "class A a where { f :: b }", "variable", "f")
        self.missing(MAIN + "class A a where { f :: a ; g :: Int }", "variable", "g")
        self.good(MAIN + "class A a where { f :: Int -> List (b -> a) }")

    def test_method_by_method(self):
        self.missing(MAIN + "class A a where { f :: b ; g :: B }", "variable", "f")
        self.unknown(MAIN + "class A a where { f :: B ; g :: b }", "type", "B")
        self.unknown(MAIN + "class A a where { f :: b -> B }", "type", "B")


class InstancesTest(ScopesCase):
    def check(self, text, error_class, kind, name):
        self.bad(MAIN + CLASSES + "data P a b = P\n" + text, error_class, kind, name)

    def test_the_class(self):
        self.check("instance A Int where", UnknownName, "class", "A")
        self.check("instance Int Int where", UnknownName, "class", "Int")

    def test_the_type_constructor(self):
        self.check("instance Eq A where", UnknownName, "type", "A")
        self.check("instance Eq Eq where", UnknownName, "type", "Eq")
        self.good(MAIN + CLASSES + f"instance Eq Int where {GOOD_EQ}\ninstance Eq Bool where {GOOD_EQ}")

    def test_the_parameters(self):
        self.check("instance Eq (P a a) where", DoubleName, "variable", "a")
        self.check("instance Eq (Int a) where", WrongCount, "type", "Int")
        self.check("instance Eq List where", WrongCount, "type", "List")
        self.check("instance Eq (P a) where", WrongCount, "type", "P")
        self.check("instance Eq (P a b c) where", WrongCount, "type", "P")

    def test_the_context(self):
        self.check("instance A a => Eq (List a) where", UnknownName, "class", "A")
        self.check("instance Eq b => Eq (List a) where", UnknownName, "variable", "b")
        self.check("instance (Eq a, Eq a) => Eq (List a) where", DoubleName, "context", "Eq a")
        self.check("instance (Eq a, Ord a, Eq b, Ord a) => Eq (P a b) where", DoubleName, "context", "Ord a")
        self.good(MAIN + CLASSES + f"data P a b = P\ninstance (Eq b, Ord a, Eq a) => Eq (P a b) where {GOOD_EQ}")

    def test_the_context_pair_by_pair(self):
        self.check("instance (Eq a, Eq a, A a) => Eq (List a) where", DoubleName, "context", "Eq a")
        self.check("instance (Eq a, A a, Eq a) => Eq (List a) where", UnknownName, "class", "A")
        self.check("instance (Eq b, A a) => Eq (List a) where", UnknownName, "variable", "b")
        self.check("instance A b => Eq (List a) where", UnknownName, "class", "A")

    def test_names_of_methods(self):
        self.check("instance Eq Int where { f = 1 }", UnknownName, "method", "f")
        self.check("instance Eq Int where { less x = x }", UnknownName, "method", "less")
        self.check("instance Eq Int where { main = 1 }", UnknownName, "method", "main")
        self.check("instance Eq Int where { eq = 1 ; ne = 2 ; eq = 3 }", DoubleName, "method", "eq")

    def test_missing_methods_in_the_order_of_the_class(self):
        self.check("instance Eq Int where", MissingName, "method", "eq")
        self.check("instance Eq Int where { ne = 1 }", MissingName, "method", "eq")
        self.check("instance Eq Int where { eq = 1 }", MissingName, "method", "ne")
        self.good(MAIN + CLASSES + "instance Eq Int where { ne = 1 ; eq = 2 }")

    def test_expressions_of_methods(self):
        self.check("instance Eq Int where { eq x x = 1 }", DoubleName, "variable", "x")
        self.check("instance Eq Int where { eq x = y }", UnknownName, "value", "y")
        self.check("instance Eq (List a) where { eq = a }", UnknownName, "value", "a")
        self.good(MAIN + CLASSES + "instance Eq Int where { eq x y = ne x ; ne = main }")

    def test_method_by_method(self):
        self.check("instance Eq Int where { eq = y ; f = 1 }", UnknownName, "value", "y")
        self.check("instance Eq Int where { f = y }", UnknownName, "method", "f")
        self.check("instance Eq Int where { eq = 1 ; eq = y }", DoubleName, "method", "eq")
        self.check("instance Eq Int where { eq = 1 ; f x x = 2 }", UnknownName, "method", "f")
        self.check("instance Eq Int where { ne x x = 1 }", DoubleName, "variable", "x")

    def test_the_order_of_the_conditions(self):
        parts = (("A", "Eq", UnknownName, "class", "A"), ("B", "P", UnknownName, "type", "B"),
                 (" a a", " a b", DoubleName, "variable", "a"), (" a", " a b", WrongCount, "type", "P"),
                 ("Eq a, Eq c", "Eq a", UnknownName, "variable", "c"), ("f = 1", "", UnknownName, "method", "f"))
        for first in range(len(parts)):
            for later in range(first + 1, len(parts)):
                words = [wrong if at in (first, later) else right
                         for at, (wrong, right, *_) in enumerate(parts)]
                class_name, head, double, few, context, method = words
                names = double if first == 2 or later == 2 else few
                self.check(f"instance ({context}) => {class_name} ({head}{names}) where {{ {method} }}",
                           *parts[first][2:])
        self.check("instance Eq c => Eq (P a b) where", UnknownName, "variable", "c")
        self.check("instance Eq (P a a a) where", DoubleName, "variable", "a")


class SignaturesTest(ScopesCase):
    """Point 3.7, and signatures at the top."""

    def test_the_definition(self):
        self.missing(MAIN + "f :: Int", "definition", "f")
        self.missing(MAIN + CLASSES + "eq :: Int", "definition", "eq")
        self.good("f :: Int\nf = 1\n" + MAIN, "main :: List Int\nmain = []", "main = []\nmain :: List Int")

    def test_the_type_has_any_variables(self):
        self.good(MAIN + "f :: a -> b\nf = f")

    def test_the_context(self):
        self.unknown(MAIN + "f :: A a => a\nf = 1", "class", "A")
        self.unknown(MAIN + CLASSES + "f :: Eq b => a\nf = 1", "variable", "b")
        self.double(MAIN + CLASSES + "f :: (Eq a, Eq a) => a\nf = 1", "context", "Eq a")
        self.double(MAIN + CLASSES + "f :: (Eq a, Eq b, Ord a, Eq b, Eq a) => a -> b\nf = 1", "context", "Eq b")
        self.good(MAIN + CLASSES + "f :: (Eq b, Ord a, Eq a) => a -> List b\nf = 1")

    def test_order(self):
        self.missing(MAIN + "f :: A a => B", "definition", "f")
        self.unknown(MAIN + "f :: A a => B\nf = 1", "type", "B")
        self.count(MAIN + "f :: A a => List\nf = 1", "type", "List")
        self.unknown(MAIN + CLASSES + "f :: (Eq b, A a) => a\nf = 1", "variable", "b")
        self.unknown(MAIN + CLASSES + "f :: (A b, Eq a) => a\nf = 1", "class", "A")
        self.unknown(MAIN + CLASSES + "f :: (Eq a, A a, Eq a) => a\nf = 1", "class", "A")
        self.double(MAIN + CLASSES + "f :: (Eq a, Eq a, Eq b) => a\nf = 1", "context", "Eq a")


class ExpressionsTest(ScopesCase):
    """Point 3.6."""

    def test_parameters(self):
        self.double(MAIN + "f x x = 1", "variable", "x")
        self.double(MAIN + "f x y z y x = 1", "variable", "y")
        self.double(MAIN + "f x x = y", "variable", "x")
        self.good(MAIN + "f x y = x y", MAIN + "f f = f")

    def test_variables(self):
        self.bad_expr("c", UnknownName, "value", "c")
        self.bad_expr("a c", UnknownName, "value", "c")
        self.good_expr("a b", "f", "main")
        self.good(MAIN + CLASSES + "f = eq ne less")

    def test_parameters_are_in_scope_in_their_own_definition_only(self):
        self.unknown(MAIN + "f x = 1\ng = x", "value", "x")

    def test_constructors(self):
        self.bad_expr("A", UnknownName, "constructor", "A")
        self.good_expr("True", "Nil", "Cons a Nil")

    def test_all_forms_are_looked_into(self):
        for text in ("x 1", "1 x", "x + 1", "1 + x", "x : 1", "[x]", "[1, 2, x]", "if x then 1 else 2",
                     "if 1 then x else 2", "if 1 then 2 else x", "note 1 x", "\\y -> x", "let { } in x",
                     "let { y = x } in 1", "let { y = 1 ; z w = x } in 1", "case x of { y -> 1 }",
                     "case 1 of { y -> x }", "case 1 of { 1 -> 2 ; y -> x }"):
            self.bad_expr(text, UnknownName, "value", "x")

    def test_from_left_to_right(self):
        for text in ("x y", "x + y", "x == y", "[x, y]", "[1, x, y]", "if x then y else z", "if 1 then x else y",
                     "case x of { c -> y }", "case 1 of { 1 -> x ; 2 -> y }", "let { c = x ; d = y } in z",
                     "let { c = x } in y", "\\c -> x y", "a (b x) y", "(a + x) (b + y)", "note 1 x y"):
            self.bad_expr(text, UnknownName, "value", "x")
        self.bad_expr("A y", UnknownName, "constructor", "A")
        self.bad_expr("y A", UnknownName, "value", "y")

    def test_lambdas(self):
        self.bad_expr("\\x x -> 1", DoubleName, "variable", "x")
        self.bad_expr("\\x y x -> z", DoubleName, "variable", "x")
        self.bad_expr("(\\x -> 1) x", UnknownName, "value", "x")
        self.good_expr("\\x y -> x y a", "\\a -> a", "\\main f -> main")

    def test_lets(self):
        self.bad_expr("let { x = 1 ; x = 2 } in 3", DoubleName, "value", "x")
        self.bad_expr("let { x :: Int ; x = 1 ; x :: Int } in 3", DoubleName, "signature", "x")
        self.bad_expr("let { x :: Int } in 3", MissingName, "definition", "x")
        self.bad_expr("let { main :: Int } in 3", MissingName, "definition", "main")
        self.bad_expr("let { x :: A ; x = 1 } in 3", UnknownName, "type", "A")
        self.bad_expr("let { x :: A c => c ; x = 1 } in 3", UnknownName, "class", "A")
        self.bad_expr("let { x c c = 1 } in 3", DoubleName, "variable", "c")
        self.bad_expr("(let { x = 1 } in 2) x", UnknownName, "value", "x")
        self.bad_expr("let { x c = 1 } in c", UnknownName, "value", "c")
        self.bad_expr("let { x c = 1 ; y = c } in 1", UnknownName, "value", "c")
        self.good_expr("let { } in a", "let { x = y ; y = x } in x y", "let { x = x } in x", "let { a = b } in a",
                       "let { x :: Int ; x = 1 ; y = x ; y :: c -> c } in y", "let { x x = x } in x")

    def test_a_context_in_a_let(self):
        self.double(MAIN + CLASSES + "f = let { x :: (Eq c, Eq c) => c ; x = 1 } in 3", "context", "Eq c")
        self.unknown(MAIN + CLASSES + "f = let { x :: Eq c => d ; x = 1 } in 3", "variable", "c")
        self.good(MAIN + CLASSES + "f = let { x :: Eq c => c ; x = 1 } in 3")

    def test_the_order_in_a_let(self):
        self.bad_expr("let { y = z ; x = 1 ; x = 2 } in 3", DoubleName, "value", "x")
        self.bad_expr("let { z :: A ; z :: B ; x = 1 ; x = 2 } in 3", DoubleName, "value", "x")
        self.bad_expr("let { z :: A ; z :: B ; x = y } in 3", DoubleName, "signature", "z")
        self.bad_expr("let { z :: A ; x = y } in 3", MissingName, "definition", "z")
        self.bad_expr("let { x = y ; x :: A ; z :: Int } in 3", UnknownName, "type", "A")
        self.bad_expr("let { x = y ; z :: Int ; x :: A } in 3", MissingName, "definition", "z")
        self.bad_expr("let { x = y ; x :: List } in z", WrongCount, "type", "List")
        self.bad_expr("let { x c c = y } in z", DoubleName, "variable", "c")
        self.bad_expr("let { x = y ; w c c = 1 } in z", UnknownName, "value", "y")

    def test_cases(self):
        self.bad_expr("case 1 of { A -> 2 }", UnknownName, "constructor", "A")
        self.bad_expr("case 1 of { Cons x -> 2 }", WrongCount, "constructor", "Cons")
        self.bad_expr("case 1 of { Cons -> 2 }", WrongCount, "constructor", "Cons")
        self.bad_expr("case 1 of { Nil x -> 2 }", WrongCount, "constructor", "Nil")
        self.bad_expr("case 1 of { Cons x y z -> 2 }", WrongCount, "constructor", "Cons")
        self.bad_expr("case 1 of { Cons x x -> 2 }", DoubleName, "variable", "x")
        self.bad_expr("case 1 of { x : x -> 2 }", DoubleName, "variable", "x")
        self.bad_expr("(case 1 of { x -> 2 }) x", UnknownName, "value", "x")
        self.bad_expr("case 1 of { Cons x y -> 2 ; Nil -> x }", UnknownName, "value", "x")
        self.good_expr("case 1 of { Cons x y -> x y a }", "case 1 of { x -> x }", "case a of { Cons a b -> a b }",
                       "case 1 of { Nil -> 1 ; True -> 2 ; 3 -> 4 ; x -> 5 }")

    def test_repeated_alternatives(self):
        self.bad_expr("case 1 of { Nil -> 2 ; Nil -> 3 }", DoubleName, "alternative", "Nil")
        self.bad_expr("case 1 of { [] -> 2 ; x : y -> 3 ; Cons x z -> 4 }", DoubleName, "alternative", "Cons")
        self.bad_expr("case 1 of { 1 -> 2 ; 12 -> 3 ; 12 -> 4 }", DoubleName, "alternative", "12")
        self.bad_expr("case 1 of { 0 -> 2 ; 0 -> 3 }", DoubleName, "alternative", "0")
        self.bad_expr("case 1 of { x -> 2 ; x -> 3 }", DoubleName, "alternative", "x")
        self.bad_expr("case 1 of { x -> 2 ; y -> 3 }", DoubleName, "alternative", "y")
        self.bad_expr("case 1 of { x -> 2 ; 7 -> 3 }", DoubleName, "alternative", "7")
        self.bad_expr("case 1 of { x -> 2 ; Nil -> 3 }", DoubleName, "alternative", "Nil")
        self.bad_expr("case 1 of { 1 -> 2 ; x -> 3 ; Cons y z -> 4 ; 1 -> 5 }", DoubleName, "alternative", "Cons")

    def test_an_alternative_has_its_own_case(self):
        self.good_expr("case 1 of { Nil -> case 2 of { Nil -> 3 ; x -> 4 } ; x -> 5 }",
                       "case case 1 of { x -> 2 } of { x -> 3 }")

    def test_the_order_in_a_case(self):
        self.bad_expr("case x of { A -> y }", UnknownName, "value", "x")
        self.bad_expr("case 1 of { A -> y }", UnknownName, "constructor", "A")
        self.bad_expr("case 1 of { A x x -> y }", UnknownName, "constructor", "A")
        self.bad_expr("case 1 of { Cons x x x -> y }", WrongCount, "constructor", "Cons")
        self.bad_expr("case 1 of { Nil -> y ; A -> 2 }", UnknownName, "value", "y")
        self.bad_expr("case 1 of { Nil -> 1 ; Nil x -> y }", WrongCount, "constructor", "Nil")
        self.bad_expr("case 1 of { z -> 1 ; A -> y }", UnknownName, "constructor", "A")
        self.bad_expr("case 1 of { z -> 1 ; Cons x x -> y }", DoubleName, "variable", "x")
        self.bad_expr("case 1 of { Nil -> 1 ; Nil -> y }", DoubleName, "alternative", "Nil")
        self.bad_expr("case 1 of { Nil -> y ; Nil -> 1 }", UnknownName, "value", "y")

    def test_bindings_may_hide_others(self):
        self.good(MAIN + CLASSES + "f x = \\x -> let x = x in case x of { Cons x eq -> \\f main -> f main x eq ; x -> x }")
        self.unknown(MAIN + "f = (\\x -> (\\x -> x) x) x", "value", "x")


class MainTest(ScopesCase):
    """Point 3.8."""

    def test_main_is_missing(self):
        self.missing("", "definition", "main")
        self.missing("f = 1", "definition", "main")
        self.missing("f main = let { main = 1 } in main", "definition", "main")

    def test_a_method_is_no_definition(self):
        self.missing("class A a where { main :: a }", "definition", "main")

    def test_last(self):
        self.unknown("f = x", "value", "x")
        self.missing("f :: Int", "definition", "f")
        self.double("data A a a = B", "variable", "a")
        self.missing("main :: Int", "definition", "main")


class OrderTest(ScopesCase):
    """Declarations are examined one by one, each of them completely."""

    WRONG = (
        ("data D d d = D1", (DoubleName, "variable", "d")),
        ("data E = E1 (List U) ", (UnknownName, "type", "U")),
        ("class F f where { f1 :: Int }", (MissingName, "variable", "f1")),
        ("instance G Int where", (UnknownName, "class", "G")),
        ("instance Eq Int where { eq = 1 }", (MissingName, "method", "ne")),
        ("instance Eq Bool where { eq = v1 ; ne = 1 }", (UnknownName, "value", "v1")),
        ("h :: Int", (MissingName, "definition", "h")),
        ("main :: List", (WrongCount, "type", "List")),
        ("i = v2", (UnknownName, "value", "v2")),
        ("j = case 1 of { Cons v v -> v3 }", (DoubleName, "variable", "v")),
    )

    def test_the_first_wrong_declaration(self):
        for first, told in self.WRONG:
            self.bad(MAIN + CLASSES + first, *told)
            for later, _ in self.WRONG:
                if later != first:
                    self.bad(MAIN + CLASSES + first + "\n" + later, *told)


class DepthTest(ScopesCase):
    def test_deep_trees(self):
        one = ("num", 1)
        for around in (lambda e: ("lam", ("y",), e), lambda e: ("let", (("define", "y", (), e),), one),
                       lambda e: ("let", (), e), lambda e: ("if", one, one, e), lambda e: ("app", e, one),
                       lambda e: ("app", one, e), lambda e: ("op", "+", e, e) if e[0] == "var" else ("op", "+", e, one),
                       lambda e: ("case", e, ((("pname", "y"), one),)), lambda e: ("list", (one, e)),
                       lambda e: ("case", one, ((("pcon", "Nil", ()), one), (("pname", "y"), e))),
                       lambda e: ("note", 1, e), lambda e: ("let", (("define", "g", ("z",), e),), one)):
            for name, told in (("x", None), ("w", (UnknownName, "value", "w"))):
                tree = ("var", name)
                for _ in range(199):
                    tree = around(tree)
                self.assertEqual(outcome((("define", "main", ("x",), tree),)), told)

    def test_deep_types(self):
        for around in (lambda t: ("fun", t, t) if t[0] == "con" else ("fun", t, ("name", "b")),
                       lambda t: ("fun", ("name", "b"), t), lambda t: ("con", "List", (t,))):
            for kind, told in (("Int", None), ("A", (UnknownName, "type", "A"))):
                tree = ("fun", ("con", kind, ()), ("name", "b"))
                for _ in range(199):
                    tree = around(tree)
                self.assertEqual(outcome((("sign", "main", (), tree), ("define", "main", (), ("num", 1)))), told)


if __name__ == "__main__":
    unittest.main()

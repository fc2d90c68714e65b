"""Types, schemes and instances of schemes: points 4.1 to 4.3."""

import unittest

from needonce.parser import parse_kind
from needonce.types import (BOOL, INT, function, instance_of, list_of, metas_of, replace_names, variable_name,
                            variables_of)

A, B, C = ("name", "a"), ("name", "b"), ("name", "c")
M0, M1, M2 = ("meta", 0), ("meta", 1), ("meta", 2)


def pair(one, other):
    return ("con", "Pair", (one, other))


def scheme(text):
    kind = parse_kind(text)
    return (variables_of(kind), (), kind)


class MakingTest(unittest.TestCase):
    def test_int_and_bool(self):
        self.assertEqual(INT, ("con", "Int", ()))
        self.assertEqual(BOOL, ("con", "Bool", ()))

    def test_list_of(self):
        self.assertEqual(list_of(INT), ("con", "List", (("con", "Int", ()),)))
        self.assertEqual(list_of(list_of(M0)), ("con", "List", (("con", "List", (M0,)),)))

    def test_function(self):
        self.assertEqual(function((), A), A)
        self.assertEqual(function((A,), B), ("fun", A, B))
        self.assertEqual(function((A, B, INT), C), ("fun", A, ("fun", B, ("fun", INT, C))))
        self.assertEqual(function((function((A,), B),), C), ("fun", ("fun", A, B), C))

    def test_variable_name(self):
        for index, name in ((0, "a"), (1, "b"), (25, "z"), (26, "a1"), (27, "b1"), (51, "z1"), (52, "a2"),
                            (259, "z9"), (260, "a10"), (26 * 100 + 3, "d100")):
            self.assertEqual(variable_name(index), name)
        self.assertEqual(len({variable_name(index) for index in range(1000)}), 1000)


class PartsTest(unittest.TestCase):
    def test_variables_of(self):
        self.assertEqual(variables_of(INT), ())
        self.assertEqual(variables_of(A), ("a",))
        self.assertEqual(variables_of(parse_kind("c -> A b (c -> d) -> F a b")),
                         ("c", "b", "d", "a"))
        self.assertEqual(variables_of(pair(pair(B, A), pair(A, C))), ("b", "a", "c"))
        self.assertEqual(variables_of(("fun", M0, ("fun", B, B))), ("b",))

    def test_metas_of(self):
        self.assertEqual(metas_of(INT), ())
        self.assertEqual(metas_of(M1), (1,))
        self.assertEqual(metas_of(("fun", pair(M2, A), ("fun", M0, pair(M0, pair(M1, M2))))), (2, 0, 1))
        self.assertEqual(metas_of(("fun", A, list_of(B))), ())

    def test_replace_names(self):
        self.assertEqual(replace_names(A, {"a": INT}), INT)
        self.assertEqual(replace_names(A, {"b": INT}), A)
        self.assertEqual(replace_names(A, {}), A)
        self.assertEqual(replace_names(INT, {"Int": BOOL}), INT)
        self.assertEqual(replace_names(M0, {"a": INT}), M0)
        self.assertEqual(replace_names(("fun", A, pair(B, ("fun", A, C))), {"a": INT, "b": list_of(M0)}),
                         ("fun", INT, pair(list_of(M0), ("fun", INT, C))))

    def test_replace_names_all_at_once(self):
        self.assertEqual(replace_names(pair(A, B), {"a": B, "b": A}), pair(B, A))
        self.assertEqual(replace_names(pair(A, B), {"a": list_of(A), "b": pair(A, B)}), pair(list_of(A), pair(A, B)))

    def test_the_dict_stays(self):
        types = {"a": INT}
        replace_names(pair(A, B), types)
        self.assertEqual(types, {"a": INT})

    def test_deep_types(self):
        for around in (list_of, lambda t: ("fun", t, B), lambda t: ("fun", B, t), lambda t: pair(M1, t)):
            tree, other = A, INT
            for _ in range(199):
                tree, other = around(tree), around(other)
            self.assertEqual(variables_of(tree).count("a"), 1)
            self.assertIn(len(metas_of(tree)), (0, 1))
            self.assertEqual(replace_names(tree, {"a": INT}), other)
            self.assertTrue(instance_of((("a",), (), tree), other))
            self.assertFalse(instance_of(((), (), tree), other))


class InstanceOfTest(unittest.TestCase):
    def check(self, scheme_text, kind_text, wanted):
        with self.subTest(scheme=scheme_text, kind=kind_text):
            found = instance_of(scheme(scheme_text), parse_kind(kind_text))
            self.assertIs(found, wanted)

    def test_equal_types(self):
        for text in ("Int", "a", "a -> b", "List (a -> Int)", "Pair a (List a)"):
            self.check(text, text, True)

    def test_one_variable(self):
        for text in ("Int", "a", "b", "List b", "a -> b", "Pair Int (a -> a)"):
            self.check("a", text, True)

    def test_a_variable_that_occurs_twice(self):
        self.check("a -> a", "Int -> Int", True)
        self.check("a -> a", "Int -> Bool", False)
        self.check("a -> a", "b -> b", True)
        self.check("a -> a", "a -> b", False)
        self.check("Pair a (List a)", "Pair Int (List Int)", True)
        self.check("Pair a (List a)", "Pair Int (List b)", False)
        self.check("a -> a", "(b -> c) -> b -> c", True)

    def test_several_variables(self):
        self.check("a -> b", "Int -> Int", True)
        self.check("a -> b", "b -> a", True)
        self.check("a -> b -> a", "b -> a -> b", True)
        self.check("a -> b -> a", "b -> a -> a", False)

    def test_less_general_schemes(self):
        self.check("Int", "a", False)
        self.check("List a", "a", False)
        self.check("List Int", "List a", False)
        self.check("a -> b", "a", False)

    def test_constructors(self):
        self.check("Int", "Bool", False)
        self.check("List a", "Maybe a", False)
        self.check("List a", "List", False)
        self.check("List", "List a", False)
        self.check("Pair a b", "Pair a", False)
        self.check("Pair a", "Pair a b", False)

    def test_functions(self):
        self.check("a -> b", "List a", False)
        self.check("Fun a b", "a -> b", False)
        self.check("a -> b", "Fun a b", False)
        self.check("List (a -> b)", "List (Fun a b)", False)
        self.check("a -> b -> c", "Int -> Bool", False)
        self.check("a -> b", "Int -> Bool -> Int", True)
        self.check("(a -> b) -> List a -> List b", "(Int -> Bool) -> List Int -> List Bool", True)
        self.check("(a -> b) -> List a -> List b", "(Int -> Bool) -> List Int -> List Int", False)

    def test_the_context_does_not_matter(self):
        self.assertIs(instance_of((("a",), (("Eq", "a"), ("Ord", "a")), A), INT), True)

    def test_names_that_are_no_variables_of_the_scheme(self):
        self.assertIs(instance_of(((), (), A), A), True)
        self.assertIs(instance_of(((), (), A), B), False)
        self.assertIs(instance_of(((), (), A), INT), False)
        self.assertIs(instance_of((("b",), (), ("fun", A, B)), ("fun", A, INT)), True)
        self.assertIs(instance_of((("b",), (), ("fun", A, B)), ("fun", B, INT)), False)


if __name__ == "__main__":
    unittest.main()

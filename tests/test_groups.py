"""Free names and groups: points 3.9 and 3.10."""

import random
import unittest

from needonce.groups import binding_groups, free_values
from needonce.parser import parse, parse_expr
from needonce.prelude import PRELUDE
from needonce.trees import definitions_of, pattern_names
from tests.making import Maker


def free_by_recursion(tree):
    """Another reading of point 3.9."""
    kind = tree[0]
    if kind == "var":
        return {tree[1]}
    if kind in ("con", "num"):
        return set()
    if kind == "lam":
        return free_by_recursion(tree[2]) - set(tree[1])
    if kind == "let":
        definitions = definitions_of(tree[1])
        found = free_by_recursion(tree[2])
        for _, _, parameters, body in definitions:
            found |= free_by_recursion(body) - set(parameters)
        return found - {definition[1] for definition in definitions}
    if kind == "case":
        found = free_by_recursion(tree[1])
        for pattern, body in tree[2]:
            found |= free_by_recursion(body) - set(pattern_names(pattern))
        return found
    parts = {"app": tree[1:], "op": tree[2:], "note": tree[2:], "if": tree[1:], "list": tree[1]}[kind]
    return set().union(*[free_by_recursion(part) for part in parts])


def slow_groups(definitions, signed):
    """Another reading of point 3.10."""
    names = [definition[1] for definition in definitions]
    needs = {name: {other for other in free_by_recursion(body)
                    if other in names and other not in parameters and other not in signed and other != name}
             for _, name, parameters, body in definitions}
    reach = {name: set(needs[name]) for name in names}
    for middle in names:
        for name in names:
            if middle in reach[name]:
                reach[name] |= reach[middle]
    groups = []
    for name in names:
        group = tuple(other for other in names if other == name or (other in reach[name] and name in reach[other]))
        if group not in groups:
            groups.append(group)
    ordered = []
    while groups:
        done = {name for group in ordered for name in group}
        group = next(group for group in groups
                     if all(other in done or other in group for name in group for other in needs[name]))
        ordered.append(group)
        groups.remove(group)
    return tuple(ordered)


class FreeValuesTest(unittest.TestCase):
    def check(self, text, *names):
        with self.subTest(text):
            self.assertEqual(free_values(parse_expr(text)), names)

    def test_each_kind_of_expression(self):
        self.check("x", "x")
        self.check("A")
        self.check("1")
        self.check("f x", "f", "x")
        self.check("x + y", "x", "y")
        self.check("x : y", "x", "y")
        self.check("if x then y else z", "x", "y", "z")
        self.check("[]")
        self.check("[x, 1, y]", "x", "y")
        self.check("note 3 x", "x")
        self.check("\\x -> y", "y")
        self.check("let { } in x", "x")
        self.check("case x of { A -> y ; 1 -> z }", "x", "y", "z")

    def test_ascending_without_duplicates(self):
        self.check("z y (x z) [y, a1, a, a'] B", "a", "a'", "a1", "x", "y", "z")
        self.check("aB + a_ + ab + a1", "a1", "aB", "a_", "ab")

    def test_what_lambdas_bind(self):
        self.check("\\x y -> x y z", "z")
        self.check("(\\x -> x) x", "x")
        self.check("\\x -> \\y -> x")

    def test_what_lets_bind(self):
        self.check("let { x = y ; y = x } in x y z", "z")
        self.check("let { x = x } in 1")
        self.check("let { f x y = x y z } in x", "x", "z")
        self.check("let { f x = 1 ; g = x } in 1", "x")
        self.check("let { f x = x } in x", "x")
        self.check("(let { x = 1 } in x) x", "x")
        self.check("let { x x = x } in 1")

    def test_signatures_bind_nothing(self):
        tree = ("let", (("sign", "x", (), ("name", "y")),), ("var", "x"))
        self.assertEqual(free_values(tree), ("x",))
        self.check("let { f :: a -> b ; f = g } in f", "g")

    def test_what_alternatives_bind(self):
        self.check("case x of { x -> x }", "x")
        self.check("case 1 of { x -> x ; A y -> x y }", "x")
        self.check("case 1 of { Cons x xs -> x xs y ; [] -> xs }", "xs", "y")
        self.check("case 1 of { x : xs -> x xs }")
        self.check("case 1 of { 2 -> x }", "x")

    def test_constructors_are_no_variables(self):
        self.check("A (B x)", "x")

    def test_other_reading(self):
        for seed in range(1500):
            tree = Maker(seed).expr(seed % 7)
            self.assertEqual(free_values(tree), tuple(sorted(free_by_recursion(tree))))

    def test_deep_expressions(self):
        one = ("num", 1)
        for around in (lambda e: ("lam", ("y",), e), lambda e: ("let", (("define", "y", (), e),), one),
                       lambda e: ("case", one, ((("pname", "y"), e),)), lambda e: ("app", e, one),
                       lambda e: ("if", one, e, one), lambda e: ("list", (e,)), lambda e: ("op", "+", e, one)):
            tree = ("app", ("var", "x"), ("var", "y"))
            for _ in range(199):
                tree = around(tree)
            self.assertIn(free_values(tree), (("x",), ("x", "y")))


class GroupsTest(unittest.TestCase):
    def check(self, text, signed, *groups):
        with self.subTest(text):
            self.assertEqual(binding_groups(parse(text), signed), groups)

    def test_the_example(self):
        self.check("f = g\ng = f h\nh = 1\nk = f", (), ("h",), ("f", "g"), ("k",))

    def test_no_definitions(self):
        self.check("", ())

    def test_definitions_alone(self):
        self.check("f = 1\ng = 2", (), ("f",), ("g",))
        self.check("f = f", (), ("f",))
        self.check("f = x\ng = map", (), ("f",), ("g",))

    def test_what_is_needed_comes_first(self):
        self.check("f = g\ng = h\nh = 1", (), ("h",), ("g",), ("f",))
        self.check("f = 1\ng = f\nh = g", (), ("f",), ("g",), ("h",))

    def test_by_way_of_others(self):
        self.check("f = g\ng = h\nh = k\nk = f", (), ("f", "g", "h", "k"))
        self.check("f = g\ng = f h\nh = k\nk = h", (), ("h", "k"), ("f", "g"))
        self.check("a = b\nb = c\nc = a d\nd = e\ne = d", (), ("d", "e"), ("a", "b", "c"))
        self.check("f = h\ng = k\nh = f\nk = g", (), ("f", "h"), ("g", "k"))

    def test_signed_ones_are_not_needed(self):
        self.check("f = g\ng = f", ("g",), ("f",), ("g",))
        self.check("f = g\ng = f", ("f",), ("g",), ("f",))
        self.check("f = g\ng = f", ("f", "g"), ("f",), ("g",))
        self.check("f = g\ng = h\nh = f", ("h",), ("g",), ("f",), ("h",))
        self.check("f = g\ng = 1", ("g",), ("f",), ("g",))
        self.check("f = g\ng = 1", ("f",), ("g",), ("f",))

    def test_signed_names_of_no_definition(self):
        self.check("f = g\ng = f", ("h", "x"), ("f", "g"))

    def test_their_own_parameters_are_not_needed(self):
        self.check("f g = g\ng = f", (), ("f",), ("g",))
        self.check("f x = g x\ng f = f", (), ("g",), ("f",))
        self.check("f f = f", (), ("f",))

    def test_bound_names_are_not_needed(self):
        self.check("f = \\g -> g\ng = f", (), ("f",), ("g",))
        self.check("f = let { g = 1 } in g\ng = f", (), ("f",), ("g",))
        self.check("f = case 1 of { g -> g }\ng = f", (), ("f",), ("g",))
        self.check("f = (\\g -> g) g\ng = f", (), ("f", "g"))

    def test_the_order_of_groups(self):
        self.check("a = d\nb = 1\nc = 2\nd = 3", (), ("b",), ("c",), ("d",), ("a",))
        self.check("a = c\nb = 1\nc = 3\nd = 4", (), ("b",), ("c",), ("a",), ("d",))
        self.check("a = e\nb = d\nc = 1\nd = b\ne = 2", (), ("b", "d"), ("c",), ("e",), ("a",))
        self.check("z = 1\ny = 2\nx = 3", (), ("z",), ("y",), ("x",))

    def test_the_order_of_the_names_in_a_group(self):
        self.check("z = a\na = m\nm = z", (), ("z", "a", "m"))

    def test_the_prelude(self):
        definitions = tuple(definitions_of(parse(PRELUDE)))
        names = tuple(definition[1] for definition in definitions)
        self.assertEqual(binding_groups(definitions, names), tuple((name,) for name in names))
        self.assertEqual(binding_groups(definitions, ()), tuple((name,) for name in names))

    def test_other_reading(self):
        chance = random.Random(3)
        names = tuple("abcdefghij")
        for _ in range(1500):
            many = chance.randrange(len(names) + 1)
            own = chance.sample(names, many)
            likely = chance.choice((0.05, 0.1, 0.2, 0.4))
            definitions = tuple(
                ("define", name, tuple(other for other in names if chance.random() < 0.05),
                 ("list", tuple(("var", other) for other in names if chance.random() < likely)))
                for name in own)
            signed = tuple(name for name in names if chance.random() < 0.2)
            self.assertEqual(binding_groups(definitions, signed), slow_groups(definitions, signed))

    def test_many_definitions(self):
        many = 2000
        chain = tuple(("define", f"f{k}", (), ("var", f"f{k + 1}")) for k in range(many))
        self.assertEqual(binding_groups(chain, ()), tuple((f"f{k}",) for k in reversed(range(many))))
        circle = tuple(("define", f"f{k}", (), ("var", f"f{(k + 1) % many}")) for k in range(many))
        self.assertEqual(binding_groups(circle, ()), (tuple(f"f{k}" for k in range(many)),))


if __name__ == "__main__":
    unittest.main()

"""The unifier: point 4.4."""

import random
import unittest

from needonce.errors import CannotUnify
from needonce.parser import parse_kind
from needonce.types import BOOL, INT, list_of, metas_of
from needonce.unify import Unifier

A, B = ("name", "a"), ("name", "b")


def fun(one, other):
    return ("fun", one, other)


def pair(one, other):
    return ("con", "Pair", (one, other))


class FreshTest(unittest.TestCase):
    def test_from_0_on(self):
        unifier = Unifier()
        self.assertEqual([unifier.fresh() for _ in range(5)], [("meta", k) for k in range(5)])

    def test_each_unifier_counts_itself(self):
        Unifier().fresh()
        unifier = Unifier()
        self.assertEqual(unifier.fresh(), ("meta", 0))
        unifier.unify(("meta", 0), INT)
        self.assertEqual(unifier.fresh(), ("meta", 1))
        self.assertEqual(Unifier().resolve(("meta", 0)), ("meta", 0))


class UnifyCase(unittest.TestCase):
    def setUp(self):
        self.unifier = Unifier()
        self.metas = [self.unifier.fresh() for _ in range(6)]

    def unify(self, one, other):
        """Unifies, and makes sure that both types are the same from then on."""
        self.assertIsNone(self.unifier.unify(one, other))
        resolved = self.unifier.resolve(one)
        self.assertEqual(resolved, self.unifier.resolve(other))
        self.assertEqual(self.unifier.resolve(resolved), resolved)
        return resolved


class GoodTest(UnifyCase):
    def test_a_meta_and_anything(self):
        for kind in (INT, A, fun(A, INT), list_of(BOOL), pair(self.metas[4], fun(self.metas[5], A))):
            for turned in (False, True):
                self.setUp()
                one, other = (kind, self.metas[0]) if turned else (self.metas[0], kind)
                self.assertEqual(self.unify(one, other), kind)
                self.assertEqual(self.unifier.resolve(list_of(self.metas[0])), list_of(kind))

    def test_a_meta_and_itself(self):
        m0, m1 = self.metas[:2]
        self.assertEqual(self.unify(m0, m0), m0)
        self.unify(m0, m1)
        self.unify(m1, m0)
        self.unify(list_of(m0), list_of(m1))
        self.assertEqual(self.unify(m0, INT), INT)
        self.assertEqual(self.unifier.resolve(m1), INT)

    def test_two_metas_are_one(self):
        m0, m1, m2, m3 = self.metas[:4]
        self.unify(m0, m1)
        self.unify(m2, m3)
        self.unify(m1, m2)
        self.assertEqual(len({self.unifier.resolve(meta) for meta in (m0, m1, m2, m3)}), 1)
        self.assertNotEqual(self.unifier.resolve(m0), self.unifier.resolve(self.metas[4]))
        self.unify(m3, BOOL)
        self.assertEqual([self.unifier.resolve(meta) for meta in (m0, m1, m2, m3)], [BOOL] * 4)

    def test_within_types(self):
        m0, m1, m2 = self.metas[:3]
        self.assertEqual(self.unify(fun(m0, list_of(m1)), fun(INT, m2)), fun(INT, list_of(m1)))
        self.assertEqual(self.unify(pair(m0, m1), pair(m0, A)), pair(INT, A))
        self.assertEqual(self.unifier.resolve(m2), list_of(A))

    def test_the_same_types(self):
        for text in ("Int", "a", "a -> b", "T (List a) (Int -> b)", "T"):
            kind = parse_kind(text)
            self.assertEqual(self.unify(kind, kind), kind)
        self.assertEqual(self.unifier.resolve(self.metas[0]), self.metas[0])

    def test_what_is_known_counts(self):
        m0, m1 = self.metas[:2]
        self.unify(m0, fun(m1, m1))
        self.assertEqual(self.unify(fun(INT, self.metas[2]), m0), fun(INT, INT))

    def test_as_little_as_possible(self):
        m0, m1, m2, m3 = self.metas[:4]
        self.unify(fun(m0, m1), fun(m1, m2))
        self.unify(pair(m3, m3), pair(list_of(m0), list_of(m2)))
        resolved = self.unifier.resolve(fun(m0, m3))
        self.assertEqual(resolved, fun(resolved[1], list_of(resolved[1])))
        self.assertEqual(resolved[1][0], "meta")
        for meta in self.metas[4:]:
            self.assertEqual(self.unifier.resolve(meta), meta)


class BadTest(UnifyCase):
    def bad(self, *pairs):
        """The last pair has no way to be equal, in both directions, and also within other types."""
        for turned in (False, True):
            for within in (lambda kind: kind, list_of, lambda kind: fun(INT, kind), lambda kind: pair(kind, A)):
                unifier = Unifier()
                for _ in range(6):
                    unifier.fresh()
                for one, other in pairs[:-1]:
                    unifier.unify(one, other)
                one, other = pairs[-1][::-1] if turned else pairs[-1]
                with self.subTest(pairs):
                    self.assertRaises(CannotUnify, unifier.unify, within(one), within(other))

    def test_other_names(self):
        self.bad((INT, BOOL))
        self.bad((list_of(INT), ("con", "Set", (INT,))))

    def test_other_numbers_of_types(self):
        self.bad((("con", "T", ()), ("con", "T", (INT,))))
        self.bad((("con", "T", (INT, INT)), ("con", "T", (INT,))))

    def test_other_types_within(self):
        self.bad((list_of(INT), list_of(BOOL)))
        self.bad((fun(INT, A), fun(BOOL, A)))
        self.bad((fun(A, INT), fun(A, BOOL)))
        self.bad((pair(INT, INT), pair(INT, BOOL)))

    def test_a_constructor_and_a_function(self):
        self.bad((INT, fun(INT, INT)))
        self.bad((("con", "T", (INT, INT)), fun(INT, INT)))

    def test_named_variables(self):
        self.bad((A, B))
        self.bad((A, INT))
        self.bad((A, ("con", "a", ())))
        self.bad((A, fun(A, A)))
        self.bad((A, list_of(A)))

    def test_a_meta_that_is_known(self):
        m0, m1 = ("meta", 0), ("meta", 1)
        self.bad((m0, INT), (m0, BOOL))
        self.bad((m0, m1), (m0, INT), (m1, A))
        self.bad((fun(m0, m0), fun(INT, BOOL)))
        self.bad((m0, A), (m0, B))

    def test_a_meta_within_itself(self):
        m0, m1, m2 = ("meta", 0), ("meta", 1), ("meta", 2)
        self.bad((m0, list_of(m0)))
        self.bad((m0, fun(INT, m0)))
        self.bad((m0, fun(m0, INT)))
        self.bad((m0, m1), (m0, list_of(m1)))

    def test_a_meta_within_itself_by_way_of_others(self):
        m0, m1, m2 = ("meta", 0), ("meta", 1), ("meta", 2)
        self.bad((m0, list_of(m1)), (m1, list_of(m0)))
        self.bad((m0, fun(m1, INT)), (m1, pair(INT, m2)), (m2, list_of(m0)))
        self.bad((pair(m0, m1), pair(list_of(m1), list_of(m0))))

    def test_the_error(self):
        with self.assertRaises(CannotUnify) as held:
            Unifier().unify(INT, BOOL)
        self.assertIsInstance(held.exception, ValueError)


class ChanceTest(unittest.TestCase):
    def kind(self, chance, depth):
        if depth == 0 or chance.random() < 0.4:
            return chance.choice((INT, A, ("meta", chance.randrange(5)), ("meta", chance.randrange(5))))
        return chance.choice((fun, pair))(self.kind(chance, depth - 1), self.kind(chance, depth - 1))

    def replaced(self, kind, found):
        if kind[0] == "meta":
            return found[kind[1]]
        if kind[0] == "fun":
            return fun(self.replaced(kind[1], found), self.replaced(kind[2], found))
        return (*kind[:2], tuple(self.replaced(part, found) for part in kind[2])) if kind[0] == "con" else kind

    def test_a_way_that_exists_is_found_and_can_still_be_reached(self):
        """Both types have a common instance, by types that are put in; so it is one of the result, too."""
        for seed in range(400):
            chance = random.Random(seed)
            found = [self.replaced(self.kind(chance, 2), [INT, A, INT, list_of(A), BOOL]) for _ in range(5)]
            unifier = Unifier()
            for _ in range(5):
                unifier.fresh()
            for _ in range(3):
                one = self.kind(chance, 3)
                other = self.loosened(chance, self.replaced(one, found), found)
                unifier.unify(one, other)
                self.assertEqual(unifier.resolve(one), unifier.resolve(other))
                self.assertEqual(unifier.resolve(unifier.resolve(one)), unifier.resolve(one))
            for meta in range(5):
                resolved = unifier.resolve(("meta", meta))
                self.assertEqual(self.replaced(resolved, found), found[meta])
                self.assertTrue(set(metas_of(resolved)) <= set(range(5)))

    def loosened(self, chance, kind, found):
        """The type with metas in the place of some of its parts that these stand for."""
        fits = [("meta", meta) for meta in range(5) if found[meta] == kind]
        if fits and chance.random() < 0.5:
            return chance.choice(fits)
        if kind[0] == "fun":
            return fun(self.loosened(chance, kind[1], found), self.loosened(chance, kind[2], found))
        if kind[0] == "con":
            return (*kind[:2], tuple(self.loosened(chance, part, found) for part in kind[2]))
        return kind


class DeepTest(unittest.TestCase):
    def test_deep_types(self):
        for wrap in (list_of, lambda kind: fun(kind, INT), lambda kind: fun(INT, kind)):
            unifier = Unifier()
            m0, m1 = unifier.fresh(), unifier.fresh()
            one, other, whole = m0, INT, INT
            for _ in range(200):
                one, other, whole = wrap(one), wrap(other), wrap(whole)
            unifier.unify(m1, one)
            unifier.unify(m1, other)
            self.assertEqual(unifier.resolve(m1), whole)
            self.assertRaises(CannotUnify, unifier.unify, wrap(one), one)

    def test_long_ways(self):
        unifier = Unifier()
        metas = [unifier.fresh() for _ in range(2000)]
        for one, other in zip(metas, metas[1:]):
            unifier.unify(one, list_of(other) if other[1] % 10 == 0 else other)
        unifier.unify(metas[-1], INT)
        kind = INT
        for _ in range(199):
            kind = list_of(kind)
        self.assertEqual(unifier.resolve(metas[0]), kind)

    def test_arguments_stay(self):
        unifier = Unifier()
        one, other = fun(unifier.fresh(), INT), fun(A, unifier.fresh())
        unifier.unify(one, other)
        self.assertEqual((one, other), (fun(("meta", 0), INT), fun(A, ("meta", 1))))


if __name__ == "__main__":
    unittest.main()

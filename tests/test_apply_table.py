"""Programs made strict: points 6.7 to 6.9."""

import unittest

from needonce.apply_table import apply_table
from needonce.checker import check
from needonce.core import arity, check_program, is_apart
from needonce.meaning import shown
from needonce.simplify import rename_apart, simplify
from needonce.strict import make_table
from tests.core_making import CoreMaker
from tests.core_text import program, term
from tests.slow import alike, pages

FUNCTIONS = """
main = (con 0)
one = (lam o1 (+ o1 1))
two = (lam t1 t2 (+ t2 t1))
three = (lam h1 h2 h3 (pick h3 (0 h1) (else h4 h2)))
lazy = (lam z1 (con 0 z1))
zero = 0
"""
TABLE = (("one", (0,)), ("two", (1, 0)), ("three", (2,)))


def arities(whole):
    return [(name, arity(each)) for name, each in whole[0]]


class ApplyCase(unittest.TestCase):
    def becomes(self, text, expected, table=TABLE):
        """What a term with the parameters a, b, f of a function becomes, up to the names of bound variables."""
        whole = program(f"{FUNCTIONS}\nuse = (lam a b f {text})")
        new = apply_table(whole, table)
        with self.subTest(text):
            self.assertTrue(alike(dict(new[0])["use"], term(f"(lam a b f {expected})")), dict(new[0])["use"])
            self.assertIsNone(check_program(new))
            self.assertTrue(is_apart(new))
            self.assertEqual(arities(new), arities(whole))
            self.assertEqual(new[1], "main")

    def stays(self, text, table=TABLE):
        self.becomes(text, text, table)


class CallTest(ApplyCase):
    def test_full_calls(self):
        self.becomes("(one a)", "(seq s a (one s))")
        self.becomes("(two a b)", "(seq s b (seq t a (two t s)))")
        self.becomes("(two (+ a 1) (f b))", "(seq s (f b) (seq t (+ a 1) (two t s)))")
        self.becomes("(three a b (f a))", "(seq s (f a) (three a b s))")

    def test_more_arguments(self):
        self.becomes("(one a b)", "(seq s a (one s b))")
        self.becomes("(two a b (f a) b)", "(seq s b (seq t a (two t s (f a) b)))")

    def test_other_calls(self):
        self.stays("(two a)")
        self.stays("two")
        self.stays("(three a b)")
        self.stays("(lazy a)")
        self.stays("(f a b)")
        self.stays("(zero a)")
        self.stays("((lam x x) a)")
        self.stays("(two a b)", (("one", (0,)),))
        self.stays("(two a b)", ())

    def test_the_order_of_the_indexes(self):
        self.becomes("(two a b)", "(seq s b (two a s))", (("two", (1,)),))

    def test_arguments_that_stay_in_their_place(self):
        self.stays("(one 1)")
        self.stays("(one (lam x x))")
        self.stays("(one (con 1 a b))")
        self.becomes("(two 1 b)", "(seq s b (two 1 s))")
        self.becomes("(two a 1)", "(seq s a (two s 1))")
        self.becomes("(one zero)", "(seq s zero (one s))")
        self.becomes("(one (note 1 2))", "(seq s (note 1 2) (one s))")
        self.becomes("(one (two a))", "(seq s (two a) (one s))")
        self.becomes("(one (con 0 (one a)))", "(one (con 0 (seq s a (one s))))")
        self.becomes("(one (lam x (one x)))", "(one (lam x (seq s x (one s))))")

    def test_calls_within_arguments(self):
        self.becomes("(one (one a))", "(seq s (seq t a (one t)) (one s))")
        self.becomes("(f (one a))", "(f (seq s a (one s)))")
        self.becomes("(three (one a) b 1)", "(three (seq s a (one s)) b 1)")
        self.becomes("(two (one a) (two a b))",
                     "(seq s (seq u b (seq v a (two v u))) (seq t (seq w a (one w)) (two t s)))")
        self.becomes("(one a (one b))", "(seq s a (one s (seq t b (one t))))")
        self.becomes("((case a (0 () one)) (one b))", "((case a (0 () one)) (seq s b (one s)))")

    def test_everywhere(self):
        call, new = "(one a)", "(seq s a (one s))"
        for place in ("(lam x {})", "(let (x {}) (y x) y)", "(let (x (x a)) {})", "(seq x {} x)", "(seq x a {})",
                      "(con 0 b {})", "(case {} (0 () b))", "(case a (1 (x) {}))", "(case a (else x {}))",
                      "(pick {} (0 b))", "(pick b (0 {}))", "(pick b (else x {}))", "(+ {} b)", "(+ b {})", "(note 1 {})",
                      "(f {})", "((f b) {})", "((note 1 {}) f)"):
            self.becomes(place.format(call), place.format(new))


class LetTest(ApplyCase):
    def test_lets_that_become_seqs(self):
        self.becomes("(let (x (+ a b)) x)", "(seq x (+ a b) x)")
        self.becomes("(let (x (+ a b)) (+ x b))", "(seq x (+ a b) (+ x b))")
        self.becomes("(let (x (f a)) (case x (0 () b)))", "(seq x (f a) (case x (0 () b)))")
        self.becomes("(let (x (con 0)) (x a))", "(seq x (con 0) (x a))")
        self.becomes("(let (x a) (two b x))", "(seq x a (seq s x (seq t b (two t s))))")
        self.becomes("(let (x 1) (seq y x a))", "(seq x 1 (seq y x a))")

    def test_lets_that_do_not(self):
        self.stays("(let (x (+ a b)) (+ b x))")
        self.stays("(let (x (+ a b)) (con 0 x))")
        self.stays("(let (x (+ a b)) (note 1 x))")
        self.stays("(let (x (+ a b)) (f x))")
        self.stays("(let (x (+ a b)) (lam y x))")
        self.stays("(let (x (con 1 x)) (case x (else y y)))")
        self.stays("(let (x (+ a b)) (y 1) x)")
        self.stays("(let (x (+ a b)) (y x) (+ x y))")
        self.stays("(let (x (+ a b)) (case a (0 () x) (else d x)))")
        self.stays("(let (x (lam y (x y))) (x a))")

    def test_leads_are_those_of_the_given_program(self):
        self.becomes("(let (x (f a)) (let (y x) (case y (0 () b))))", "(seq x (f a) (seq y x (case y (0 () b))))")
        self.becomes("(let (x (f a)) (let (y x) (+ b y)))", "(let (x (f a)) (let (y x) (+ b y)))")
        self.becomes("(let (x (f a)) (two b x))", "(seq x (f a) (seq s x (seq t b (two t s))))")

    def test_all_names_are_open(self):
        self.becomes("(seq x a (let (y b) (seq z x y)))", "(seq x a (let (y b) (seq z x y)))")
        self.becomes("(case a (1 (x) (let (y x) (+ y x))))", "(case a (1 (x) (seq y x (+ y x))))")

    def test_terms_are_made_strict_themselves(self):
        self.becomes("(let (x (one a)) (one x))", "(seq x (seq s a (one s)) (seq t x (one t)))")
        self.becomes("(let (x (one a)) (con 0 (one x)))", "(let (x (seq s a (one s))) (con 0 (seq t x (one t))))")


class ProgramTest(unittest.TestCase):
    def test_new_names_are_used_nowhere(self):
        text = FUNCTIONS + "\nuse = (lam n.1 n.2 (one (one n.1)))\nn.3 = (lam s.1 (one s.1))"
        new = apply_table(program(text), TABLE)
        self.assertIsNone(check_program(new))
        self.assertTrue(is_apart(new))
        self.assertTrue(alike(dict(new[0])["use"], term("(lam a b (seq s (seq t a (one t)) (one s)))")))

    def test_the_program_stays_as_it_is(self):
        whole = program(FUNCTIONS + "\nuse = (lam a (one (one a)))")
        before = repr(whole)
        apply_table(whole, TABLE)
        self.assertEqual(repr(whole), before)

    def test_without_a_table(self):
        whole = program(FUNCTIONS + "\nuse = (lam a (one (one a)))")
        self.assertEqual(apply_table(whole, ()), whole)

    def shows_the_same(self, whole, table, fuel):
        new = apply_table(whole, table)
        self.assertIsNone(check_program(new))
        self.assertTrue(is_apart(new))
        self.assertEqual(arities(new), arities(whole))
        events, state, _ = shown(whole, fuel)
        new_events, new_state, _ = shown(new, 3 * fuel)
        self.assertNotEqual(state, ("stuck",))
        old_pages, new_pages = pages(events), pages(new_events)
        self.assertEqual(new_pages[:len(old_pages)], old_pages)
        if state[0] in ("end", "fault"):
            self.assertEqual(new_state, state)
        return new != whole

    def test_it_shows_the_same(self):
        changed = 0
        for seed in range(500):
            whole = rename_apart(CoreMaker(seed, seed % 2 == 0).program(seed % 7))
            table = make_table(whole)
            changed += self.shows_the_same(whole, table, 300)
            self.shows_the_same(whole, table[:1], 300)
            self.shows_the_same(whole, tuple((name, indexes[:1]) for name, indexes in table), 300)
        self.assertGreater(changed, 60)

    def test_programs_of_texts_show_the_same(self):
        for text in ("main = take 5 (filter (\\x -> 0 < x mod 3) (iterate (\\x -> x * 2 - 1) 3))",
                     "count n acc = if n == 0 then acc else count (n - 1) (acc + n)\nmain = [count 30 0, length (upto 1 9)]",
                     "main = let xs = note 1 (upto 1 3) in [sum xs, note 2 (length xs), head (drop 3 xs)]",
                     "f x y = if x < 3 then f (x + 1) (note 5 y) else y\nmain = [f 0 1, f 4 (1 div 0)]"):
            for whole in (rename_apart(check(text)), simplify(check(text))):
                for fuel in (10, 100, 3000):
                    self.assertTrue(self.shows_the_same(whole, make_table(whole), fuel))


class DeepTest(unittest.TestCase):
    def test_deep_terms(self):
        a = ("var", "a")
        for place in (lambda e, k: ("app", ("var", "one"), e), lambda e, k: ("app", e, a),
                      lambda e, k: ("lam", f"x{k}", e), lambda e, k: ("let", ((f"x{k}", e),), ("var", f"x{k}")),
                      lambda e, k: ("let", ((f"x{k}", a),), e), lambda e, k: ("seq", f"x{k}", e, a),
                      lambda e, k: ("seq", f"x{k}", a, e), lambda e, k: ("con", 0, (e,)),
                      lambda e, k: ("case", e, (), (f"x{k}", a)), lambda e, k: ("case", a, (), (f"x{k}", e)),
                      lambda e, k: ("pick", a, ((0, e),), None), lambda e, k: ("prim", "+", e, a),
                      lambda e, k: ("prim", "+", a, e), lambda e, k: ("note", 1, e)):
            deep = ("app", ("var", "one"), a)
            for k in range(199):
                deep = place(deep, k)
            whole = program(FUNCTIONS)
            whole = ((*whole[0], ("use", ("lam", "a", deep))), "main")
            new = apply_table(whole, TABLE)
            with self.subTest(place(a, 0)):
                self.assertIsNone(check_program(new))
                self.assertTrue(is_apart(new))
                self.assertNotEqual(new, whole)


if __name__ == "__main__":
    unittest.main()

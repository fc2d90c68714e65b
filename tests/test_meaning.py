"""The meaning, step by step, and what a program shows: points 5.7 to 5.11."""

import random
import unittest

from needonce.checker import check
from needonce.meaning import FAULTS, head_of, shown
from tests.core_making import CoreMaker
from tests.core_text import program, term
from tests.slow import slow_head_of, slow_shown

LIMIT = 10 ** 15
GLOBALS = "five = 5\nid = (lam x x)\nloop = loop\nmain = five"


class HeadCase(unittest.TestCase):
    def head(self, text, expected, steps, notes=(), rest=GLOBALS):
        """The result of a term, with the number of steps; one step less is too little, and more fuel changes nothing."""
        whole = program(rest)
        with self.subTest(text):
            for fuel in (steps, steps + 1, 1000):
                self.assertEqual(head_of(whole, term(text), fuel), (expected, steps, notes))
            for fuel in range(steps):
                found = head_of(whole, term(text), fuel)
                self.assertEqual(found[:2], (("more",), fuel))
                self.assertEqual(found[2], notes[:len(found[2])])

    def stuck(self, text, steps, notes=()):
        self.head(text, ("stuck",), steps, notes)


class StepTest(HeadCase):
    def test_heads(self):
        self.head("7", ("num", 7), 0)
        self.head("(lam x x)", ("fun",), 0)
        self.head("(con 3)", ("con", 3, 0), 0)
        self.head("(con 1 loop (id 1))", ("con", 1, 2), 0)

    def test_names(self):
        self.head("five", ("num", 5), 1)
        self.head("id", ("fun",), 1)
        self.head("main", ("num", 5), 2)
        self.stuck("nobody", 1)

    def test_applications(self):
        self.head("((lam x x) 7)", ("num", 7), 3)
        self.head("(id five)", ("num", 5), 5)
        self.head("((lam x y x) 1 2)", ("num", 1), 5)
        self.head("((lam x 1) loop)", ("num", 1), 2)
        self.head("((lam x (lam y x)) 1)", ("fun",), 2)
        self.stuck("(5 5)", 2)
        self.stuck("((con 0) 5)", 2)
        self.stuck("(five 5)", 3)

    def test_lets(self):
        self.head("(let (x 1) x)", ("num", 1), 2)
        self.head("(let (x y) (y 3) x)", ("num", 3), 3)
        self.head("(let (x (con 1 1 x)) x)", ("con", 1, 2), 2)
        self.head("(let (x loop) 1)", ("num", 1), 1)
        self.head("(let (five 1) five)", ("num", 1), 2)

    def test_seqs(self):
        self.head("(seq x 1 2)", ("num", 2), 2)
        self.head("(seq x five (con 0 x))", ("con", 0, 1), 3)
        self.head("(seq x (note 1 2) 3)", ("num", 3), 3, (1,))

    def test_cases(self):
        self.head("(case (con 1) (0 () 5) (1 () 6))", ("num", 6), 2)
        self.head("(case (con 1 2 3) (1 (x y) y))", ("num", 3), 3)
        self.head("(case (con 1 2 3) (0 () 1) (else z z))", ("con", 1, 2), 2)
        self.head("(case (con 1 2 3) (0 () 1))", ("fault", "no match"), 2)
        self.head("(case (con 1))", ("fault", "no match"), 2)
        self.stuck("(case 1 (0 () 1) (else z 2))", 2)
        self.stuck("(case (lam x x) (else z 2))", 2)

    def test_the_first_alternative_that_fits(self):
        self.head("(case (con 1 2) (1 () 5) (1 (x y) 6) (0 (x) 7) (1 (x) 8) (1 (y) 9))", ("num", 8), 2)
        self.head("(case (con 1 2) (1 () 5) (1 (x y) 6))", ("fault", "no match"), 2)
        self.head("(case (con 1 2) (1 () 5) (else z 7))", ("num", 7), 2)
        self.head("(pick 2 (1 5) (2 6) (else z 7))", ("num", 6), 2)

    def test_picks(self):
        self.head("(pick 1 (0 5) (1 6))", ("num", 6), 2)
        self.head("(pick -1 (-1 6))", ("num", 6), 2)
        self.head("(pick 3 (0 1) (else z z))", ("num", 3), 2)
        self.head("(pick 3 (0 1))", ("fault", "no match"), 2)
        self.head("(pick 3)", ("fault", "no match"), 2)
        self.stuck("(pick (con 1) (1 2) (else z 3))", 2)
        self.stuck("(pick (lam x x) (else z 3))", 2)

    def test_prims(self):
        self.head("(+ 1 2)", ("num", 3), 3)
        self.head("(+ five (+ 1 2))", ("num", 8), 6 + 1)
        self.stuck("(+ (con 0) 1)", 2)
        self.stuck("(+ 1 (con 0))", 3)
        self.stuck("(+ id loop)", 3)
        self.stuck("(== (lam x x) 1)", 2)
        self.stuck("(== 1 (lam x x))", 3)

    def test_the_result_of_a_prim_is_a_head(self):
        self.head("(case (< 1 2) (1 () 5))", ("num", 5), 5)
        self.head("(seq x (+ 1 2) x)", ("num", 3), 5)
        self.head("(case (== 1 2) (else z z))", ("con", 0, 0), 5)

    def test_notes(self):
        self.head("(note 3 5)", ("num", 5), 1, (3,))
        self.head("(note 3 (note 2 (note 3 (con 0))))", ("con", 0, 0), 3, (3, 2, 3))
        self.head("(+ (note 1 1) (note 2 2))", ("num", 3), 5, (1, 2))
        self.head("((lam x 1) (note 1 2))", ("num", 1), 2)
        self.head("(note 4 (case 1))", ("stuck",), 3, (4,))
        self.head("(note 4 (case (con 1)))", ("fault", "no match"), 3, (4,))

    def test_terms_are_evaluated_anew(self):
        self.head("((lam x (+ x x)) (note 1 2))", ("num", 4), 9, (1, 1))
        self.head("(let (x (note 1 2)) (+ x x))", ("num", 4), 8, (1, 1))
        self.head("(case (con 0 (note 1 2)) (0 (x) (+ x x)))", ("num", 4), 9, (1, 1))
        self.head("(+ noted noted)", ("num", 4), 7, (1, 1), "noted = (note 1 2)\nmain = 1")

    def test_the_name_of_a_seq_or_a_default_stands_for_a_head(self):
        self.head("(seq x (note 1 2) (+ x x))", ("num", 4), 6, (1,))
        self.head("(pick (note 1 2) (else x (+ x x)))", ("num", 4), 6, (1,))
        self.head("(case (note 1 (con 0)) (else x (case x (0 () 5))))", ("num", 5), 5, (1,))
        self.head("(seq x 2 x)", ("num", 2), 2)
        self.head("(seq x id (x 3))", ("num", 3), 6)
        self.head("(seq x (note 1 2) (seq y x (+ y y)))", ("num", 4), 8, (1,))

    def test_the_environment(self):
        self.head("((lam x ((lam f ((lam x (f 0)) 2)) (lam y x))) 1)", ("num", 1), 10)
        self.head("(let (x 1) (let (f (lam y x)) (let (x 2) (f 0))))", ("num", 1), 7)
        self.head("((lam five ((lam x x) five)) 3)", ("num", 3), 6)
        self.head("(case (let (x 1) (con 0 x)) (0 (y) (let (x 2) y)))", ("num", 1), 6)
        self.head("((lam five (id five)) 3)", ("num", 3), 7)
        self.head("(let (five 6) global)", ("num", 5), 3, (), "five = 5\nglobal = five\nmain = 1")
        self.head("(seq x (con 0 x) 1)", ("num", 1), 2)

    def test_loops(self):
        whole = program(GLOBALS)
        for fuel in (0, 1, 10, 100000):
            self.assertEqual(head_of(whole, term("loop"), fuel), (("more",), fuel, ()))
        self.assertEqual(head_of(whole, term("(let (x (note 1 x)) x)"), 6), (("more",), 6, (1, 1)))


class NumberTest(HeadCase):
    def result(self, sign, one, other, expected):
        with self.subTest((sign, one, other)):
            found = head_of(program(GLOBALS), ("prim", sign, ("num", one), ("num", other)), 3)
            self.assertEqual(found, (expected, 3, ()))

    def test_results(self):
        self.result("+", 2, 3, ("num", 5))
        self.result("-", 2, 3, ("num", -1))
        self.result("*", -2, 3, ("num", -6))

    def test_div_and_mod_round_down(self):
        for one, other, quotient, rest in ((7, 2, 3, 1), (-7, 2, -4, 1), (7, -2, -4, -1), (-7, -2, 3, -1), (6, -3, -2, 0),
                                           (0, 5, 0, 0), (1, -5, -1, -4), (LIMIT, -1, -LIMIT, 0)):
            self.result("div", one, other, ("num", quotient))
            self.result("mod", one, other, ("num", rest))

    def test_division_by_zero(self):
        for sign in ("div", "mod"):
            for one in (0, 1, -1, LIMIT):
                self.result(sign, one, 0, ("fault", "division by zero"))

    def test_comparisons(self):
        for one, other in ((1, 2), (2, 1), (2, 2), (-1, 1), (0, 0)):
            self.result("==", one, other, ("con", int(one == other), 0))
            self.result("<", one, other, ("con", int(one < other), 0))
            self.result("<=", one, other, ("con", int(one <= other), 0))

    def test_overflow(self):
        self.result("+", LIMIT - 1, 1, ("num", LIMIT))
        self.result("+", LIMIT, 1, ("fault", "overflow"))
        self.result("-", 1 - LIMIT, 1, ("num", -LIMIT))
        self.result("-", -LIMIT, 1, ("fault", "overflow"))
        self.result("+", -LIMIT, -1, ("fault", "overflow"))
        self.result("*", 10 ** 8, 10 ** 7, ("num", LIMIT))
        self.result("*", 10 ** 8, -10 ** 7, ("num", -LIMIT))
        self.result("*", 10 ** 8, 10 ** 7 + 1, ("fault", "overflow"))
        self.result("*", -LIMIT, -LIMIT, ("fault", "overflow"))
        self.result("<", LIMIT, -LIMIT, ("con", 0, 0))

    def test_the_words(self):
        self.assertEqual(FAULTS, ("no match", "division by zero", "overflow"))

    def test_a_fault_is_found_in_a_step(self):
        self.head("(div 1 0)", ("fault", "division by zero"), 3)
        self.head("(+ 1 (div (note 2 1) 0))", ("fault", "division by zero"), 6, (2,))
        self.head(f"(+ {LIMIT} (seq x 1 x))", ("fault", "overflow"), 5)


class ShownTest(unittest.TestCase):
    def shows(self, text, events, state, steps):
        """What a program shows; less fuel gives a beginning of it."""
        whole = program(text)
        with self.subTest(text):
            for fuel in (steps, steps + 1, 10000):
                self.assertEqual(shown(whole, fuel), (events, state, steps))
            for fuel in range(steps):
                found, early, done = shown(whole, fuel)
                self.assertEqual((early, done), (("more",), fuel))
                self.assertEqual(found, events[:len(found)])

    def test_lists(self):
        self.shows("main = (con 0)", (("end",),), ("end",), 1)
        self.shows("main = (con 1 7 (con 0))", (("show", 7), ("end",)), ("end",), 1)
        self.shows("main = (con 1 (+ 1 2) rest)\nrest = (con 1 8 (con 0))",
                   (("show", 3), ("show", 8), ("end",)), ("end",), 5)

    def test_the_order_of_the_events(self):
        self.shows("main = (note 1 (con 1 (note 2 5) (note 3 (con 1 6 (note 1 (con 0))))))",
                   (("note", 1), ("note", 2), ("show", 5), ("note", 3), ("show", 6), ("note", 1), ("end",)), ("end",), 5)

    def test_arguments_in_their_environment(self):
        self.shows("main = (let (x 4) (con 1 x (let (x 5) (con 1 x (con 0)))))",
                   (("show", 4), ("show", 5), ("end",)), ("end",), 5)
        self.shows("main = (seq x (+ 1 2) (con 1 x (con 1 x (con 0))))", (("show", 3), ("show", 3), ("end",)), ("end",), 6)

    def test_faults(self):
        self.shows("main = (div 1 0)", (("fault", "division by zero"),), ("fault", "division by zero"), 4)
        self.shows("main = (con 1 1 (note 2 (case (con 0))))", (("show", 1), ("note", 2), ("fault", "no match")),
                   ("fault", "no match"), 4)
        self.shows(f"main = (con 1 (+ {LIMIT} 1) (con 0))", (("fault", "overflow"),), ("fault", "overflow"), 4)

    def test_stuck(self):
        self.shows("main = nobody", (), ("stuck",), 2)
        self.shows("main = 5", (), ("stuck",), 1)
        self.shows("main = (lam x x)", (), ("stuck",), 1)
        self.shows("main = (con 0 1)", (), ("stuck",), 1)
        self.shows("main = (con 1)", (), ("stuck",), 1)
        self.shows("main = (con 1 1)", (), ("stuck",), 1)
        self.shows("main = (con 1 1 2 3)", (), ("stuck",), 1)
        self.shows("main = (con 2)", (), ("stuck",), 1)
        self.shows("main = (con 2 1 (con 0))", (), ("stuck",), 1)
        self.shows("main = (con 1 (con 0) (con 0))", (), ("stuck",), 1)
        self.shows("main = (con 1 (lam x x) (con 0))", (), ("stuck",), 1)
        self.shows("main = (con 1 3 (note 1 4))", (("show", 3), ("note", 1)), ("stuck",), 2)
        self.shows("main = (con 1 (1 1) (con 0))", (), ("stuck",), 3)

    def test_the_fuel_is_shared(self):
        whole = program("main = (con 1 (+ 1 1) (con 1 (+ 2 2) main))")
        for fuel in range(50):
            events, state, steps = shown(whole, fuel)
            self.assertEqual((state, steps), (("more",), fuel))
            self.assertEqual(len(events), fuel // 7 * 2 + (fuel % 7 >= 4))

    def test_numbers_for_ever(self):
        events, state, steps = shown(program("main = (con 1 1 main)"), 100)
        self.assertEqual((events, state, steps), ((("show", 1),) * 100, ("more",), 100))
        events, state, _ = shown(check("main = iterate (\\x -> x + 1) 1"), 2000)
        self.assertEqual(state, ("more",))
        self.assertEqual([n for _, n in events], list(range(1, len(events) + 1)))

    def test_no_fuel(self):
        self.assertEqual(shown(program("main = (con 0)"), 0), ((), ("more",), 0))

    def test_another_main(self):
        self.assertEqual(shown(((("start", ("con", 0, ())),), "start"), 5), ((("end",),), ("end",), 1))


class ChanceTest(unittest.TestCase):
    def test_another_reading(self):
        states = set()
        for seed in range(400):
            whole = CoreMaker(seed, seed % 2 == 0).program(seed % 7)
            found = shown(whole, 300)
            states.add(found[1])
            self.assertEqual(found, slow_shown(whole, 300))
            for _, each in whole[0]:
                for fuel in (0, 3, 40):
                    self.assertEqual(head_of(whole, each, fuel), slow_head_of(whole, each, fuel))
        self.assertTrue({("end",), ("more",), ("fault", "no match")} <= states)
        self.assertNotIn(("stuck",), states)

    def test_another_reading_of_terms_without_types(self):
        """In these programs something has been put in the place of something else."""
        states = set()
        for seed in range(600):
            chance = random.Random(seed)
            definitions, main = CoreMaker(seed, False).program(5)
            whole = (tuple((name, self.mixed(chance, each)) for name, each in definitions), main)
            found = shown(whole, 200)
            states.add(found[1])
            self.assertEqual(found, slow_shown(whole, 200))
        self.assertIn(("stuck",), states)

    def mixed(self, chance, tree):
        """The term with other terms in the place of some in it."""
        if not isinstance(tree, tuple) or not tree:
            return tree
        if tree[0] in ("num", "var", "app", "con", "prim") and chance.random() < 0.1:
            return chance.choice((("num", 1), ("var", "nobody"), ("con", 1, (("num", 2),)), ("lam", "x", ("var", "x"))))
        return tuple(self.mixed(chance, part) for part in tree)


class DeepTest(unittest.TestCase):
    def test_deep_terms(self):
        one = ("num", 1)
        for place in (lambda e: ("app", ("lam", "x", ("var", "x")), e), lambda e: ("app", ("lam", "x", e), one),
                      lambda e: ("let", (("x", e),), ("var", "x")), lambda e: ("let", (("x", one),), e),
                      lambda e: ("seq", "x", e, one), lambda e: ("seq", "x", one, e),
                      lambda e: ("pick", e, ((1, one),), None), lambda e: ("pick", one, (), ("x", e)),
                      lambda e: ("case", ("con", 0, (e,)), ((0, ("x",), ("var", "x")),), None),
                      lambda e: ("prim", "*", e, one), lambda e: ("prim", "*", one, e), lambda e: ("note", 1, e)):
            deep = one
            for _ in range(200):
                deep = place(deep)
            result, steps, _ = head_of(program(GLOBALS), deep, 10000)
            self.assertEqual(result, one)
            self.assertGreaterEqual(steps, 200)

    def test_deep_evaluations(self):
        whole = program("main = (con 1 (f 3000) (con 0))\nf = (lam n (pick n (0 0) (else m (+ 1 (f (- m 1))))))")
        self.assertEqual(shown(whole, 10 ** 6)[0], (("show", 3000), ("end",)))

    def test_arguments_stay(self):
        whole, each = program(GLOBALS), term("(let (x (id five)) (+ x x))")
        head_of(whole, each, 100)
        self.assertEqual((whole, each), (program(GLOBALS), term("(let (x (id five)) (+ x x))")))


if __name__ == "__main__":
    unittest.main()

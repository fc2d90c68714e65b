"""Names made different, and simplification: points 6.9 to 6.12."""

import unittest

from needonce.checker import check
from needonce.core import bound_names, check_program, free_names, is_apart, program_size, size
from needonce.meaning import shown
from needonce.simplify import rename_apart, simplify
from tests.core_making import CoreMaker
from tests.core_text import program, term
from tests.slow import alike, pages, steps


def used_names(whole):
    """All names of a program: of definitions, bound ones and free ones."""
    return {name for given, each in whole[0] for name in (given, *bound_names(each), *free_names(each))}


def all_bound(whole):
    """The names of the definitions, and then all bound names in order, with those of each definition together."""
    return [name for name, _ in whole[0]] + [name for _, each in whole[0] for name in bound_names(each)]


class RenameTest(unittest.TestCase):
    def check_renamed(self, whole):
        """The new program is the same up to bound names, and of these only those have changed that were bound before."""
        before = repr(whole)
        new = rename_apart(whole)
        self.assertEqual(repr(whole), before)
        self.assertTrue(is_apart(new))
        self.assertIsNone(check_program(new))
        self.assertEqual(new[1], whole[1])
        for (name, each), (new_name, new_each) in zip(whole[0], new[0]):
            self.assertEqual(name, new_name)
            self.assertTrue(alike(each, new_each))
        seen = set()
        for name, new_name in zip(all_bound(whole), all_bound(new)):
            if name in seen:
                self.assertNotIn(new_name, used_names(whole))
            else:
                self.assertEqual(new_name, name)
            seen.add(name)
        return new

    def test_what_is_apart_stays(self):
        for text in ("main = (lam x y (let (z x) (u y) (case z (0 (v) v) (else w w))))", "main = (f main)\nf = (lam x x)"):
            self.assertEqual(self.check_renamed(program(text)), program(text))

    def test_each_kind_of_binding(self):
        for text in ("(lam x x x)", "((lam x x) (lam x (lam x x)))", "(lam x (let (x x) (y x) (x y)))",
                     "(let (x (let (x 1) x)) (let (y x) (x 2) (x y)))", "(seq x 1 (seq x x (seq x (lam x x) x)))",
                     "(case (con 0) (0 (x y) (x y)) (1 (y x) (x y)) (else x x))", "(lam x (case x (1 (x) x) (else x x)))",
                     "(pick 1 (1 (lam x x)) (else x (pick x (else x x))))", "(lam x (con 0 x (lam x x) x))",
                     "(lam x (+ (lam x x) x))", "(lam x (note 1 (lam x x)))", "(lam main main)",
                     "(let (main 1) (f 2) (main f))", "(lam f (seq main f (f main)))",
                     "(case 1 (0 (f main) f) (else f f))"):
            self.check_renamed(program(f"main = {text}\nf = (lam x (lam a x))"))
            self.check_renamed(program(f"f = (lam x (lam a x))\nmain = {text}"))

    def test_names_of_definitions_are_bound_first(self):
        new = self.check_renamed(program("main = (lam later later)\nlater = (lam x x)"))
        self.assertNotEqual(new[0][0][1][1], "later")
        self.assertEqual(new[0][1], ("later", term("(lam x x)")))

    def test_the_first_one_keeps_its_name(self):
        new = self.check_renamed(program("main = (lam x 1)\nf = (lam x 2)\ng = (lam x 3)"))
        self.assertEqual([new[0][0][1][1], len({each[1] for _, each in new[0]})], ["x", 3])

    def test_new_names_are_used_nowhere(self):
        text = "main = (lam x x (n.1 n.2))\nn.1 = (lam x n.2 x.1 x)\nn.2 = (lam s.1 v.1 x.2 n.3 (lam x x))"
        new = self.check_renamed(program(text))
        self.assertIsNone(check_program(new))

    def test_long_names(self):
        name = "a" * 80
        self.check_renamed(program(f"main = (lam {name} {name} (f {name}))\nf = (lam {name} 1)"))

    def test_by_chance(self):
        for seed in range(300):
            self.check_renamed(CoreMaker(seed, False).program(seed % 7))


class SimplifyCase(unittest.TestCase):
    def becomes(self, text, expected):
        """What a function main with the parameters a, b, f becomes, up to the names of bound variables."""
        whole = program(f"main = (lam a b f {text})\ng = (lam x x)\nh = (con 0)")
        new = simplify(whole)
        found = dict(new[0])["main"]
        with self.subTest(text):
            self.assertTrue(alike(found, term(f"(lam a b f {expected})")), found)
            self.assertIsNone(check_program(new))
            self.assertTrue(is_apart(new))

    def stays(self, *texts):
        for text in texts:
            self.becomes(text, text)


class StepTest(SimplifyCase):
    def test_1_a_lam_applied(self):
        self.becomes("((lam x (con 0 x x)) (f a))", "(let (x (f a)) (con 0 x x))")
        self.becomes("((lam x y (con 0 x x y y)) (f a) (f b))",
                     "((let (x (f a)) (lam y (con 0 x x y y))) (f b))")
        self.stays("(f (lam x x))", "((note 1 (lam x x)) a)", "((let (y (f a)) (lam x (con 0 x x y y))) b)",
                   "(lam x (x a))", "(g a)")

    def test_2_a_name_that_is_not_used(self):
        self.becomes("(let (x (f a)) b)", "b")
        self.becomes("(let (x (f x)) b)", "b")
        self.becomes("(let (x (f a)) (y (f b)) (con 0 x x))", "(let (x (f a)) (con 0 x x))")
        self.becomes("(let (x (f y)) (y (f b)) (con 0 y y))", "(let (y (f b)) (con 0 y y))")
        self.becomes("(let (x (f y)) (y (f b)) a)", "a")
        self.becomes("(let (x (f (note 1 2))) b)", "b")
        self.stays("(let (x (f y)) (y (f x)) b)", "(let (x (f x)) (f x))")
        self.becomes("(let (x (f y)) (y (f z)) (z (f y)) a)", "(let (y (f z)) (z (f y)) a)")

    def test_3_a_num_or_a_name(self):
        self.becomes("(let (x 5) (con 0 x x))", "(con 0 5 5)")
        self.becomes("(let (x a) (con 0 x x))", "(con 0 a a)")
        self.becomes("(let (x g) (con 0 x x))", "(con 0 g g)")
        self.becomes("(let (x 5) (lam y (+ x y)))", "(lam y (+ 5 y))")
        self.becomes("(let (x a) (y (f x y)) (con 0 x y y))", "(let (y (f a y)) (con 0 a y y))")
        self.becomes("(let (y (f x y)) (x 3) (con 0 y y))", "(let (y (f 3 y)) (con 0 y y))")
        self.becomes("(let (x a) (let (y x) (con 0 x y y)))", "(con 0 a a a)")
        self.stays("(let (x x) (con 0 x x))", "(let (x y) (y (f x)) (con 0 x x))", "(let (x y) (y x) (con 0 x y x y))",
                   "(let (x (con 0)) (con 0 x x))", "(let (x (lam y y)) (con 0 x x))")

    def test_3_a_name_of_the_let_that_it_loses(self):
        self.becomes("(let (x y) (y 5) (con 0 x y y))", "(con 0 5 5 5)")
        self.becomes("(let (x y) (y a) (con 0 x x y y))", "(con 0 a a a a)")
        self.becomes("(let (x (f a)) (let (y x) (con 0 y y)))", "(let (x (f a)) (con 0 x x))")

    def test_4_a_name_that_is_used_once(self):
        self.becomes("(let (x (f a)) (con 0 x b))", "(con 0 (f a) b)")
        self.becomes("(let (x (note 1 2)) (+ b x))", "(+ b (note 1 2))")
        self.becomes("(let (x (f a)) (case b (0 (y) x)))", "(case b (0 (y) (f a)))")
        self.becomes("(let (x (f a)) (con 0 x (lam y y)))", "(con 0 (f a) (lam y y))")
        self.becomes("(let (x (f a)) (con 0 (lam y y) x))", "(con 0 (lam y y) (f a))")
        self.becomes("(lam z (con 0 (lam y y) (let (x (f z)) (con 0 (lam y y) x)) (lam y y)))",
                     "(lam z (con 0 (lam y y) (con 0 (lam y y) (f z)) (lam y y)))")
        self.becomes("(let (x (f a)) (let (y (x y)) (con 0 y y)))", "(let (y (f a y)) (con 0 y y))")
        self.becomes("(let (x (f a)) (y (f b)) (con 0 x y y))", "(let (y (f b)) (con 0 (f a) y y))")
        self.becomes("(let (x (lam z z)) (f x))", "(f (lam z z))")
        self.becomes("(lam z (let (x (f z)) (f x)))", "(lam z (f (f z)))")
        self.becomes("(let (x (f a)) (y (f x)) (f y))", "(f (f (f a)))")
        self.becomes("(let (y (f x)) (x (f a)) (f y))", "(f (f (f a)))")
        self.stays("(let (x (f a)) (con 0 x x))", "(let (x (f a)) (lam y x))", "(let (x (f a)) (f (lam y (f x))))",
                   "(let (x (f x)) (f x))", "(let (x (f a)) (y (f x y)) (con 0 x y y))",
                   "(let (x (f a)) (case b (0 () x) (1 () x)))", "(let (x (f y)) (y (f x)) (f x))")
        self.becomes("(let (x (f a)) (y (f x y)) (con 0 y y))", "(let (x (f a)) (y (f x y)) (con 0 y y))")

    def test_5_a_case_of_a_con(self):
        self.becomes("(case (con 1 (f a) (f b)) (0 () a) (1 (x y) (con 0 x x y y)))",
                     "(let (x (f a)) (y (f b)) (con 0 x x y y))")
        self.becomes("(case (con 0) (0 () a) (1 () b))", "a")
        self.becomes("(case (con 1 a) (1 () 1) (1 (x y) 2) (1 (x) (f 3)) (1 (x) 4))", "(f 3)")
        self.becomes("(case (con 1 a) (1 () 1) (else x (f x)))", "(seq x (con 1 a) (f x))")
        self.becomes("(case (con 1) (else x b))", "(seq x (con 1) b)")
        self.becomes("(case (con 1) (1 () a) (else x b))", "a")
        self.becomes("(case (con 1 (f a)) (1 (x) (f x)))", "(f (f a))")
        self.stays("(case (con 1 a) (1 () 1) (0 (x) 2))", "(case (con 1))", "(case a (1 () 1))",
                   "(case (note 1 (con 1)) (1 () 1))", "(seq x (con 1 a) (case x (1 (y) y)))",
                   "(case h (0 () 1))")

    def test_6_a_pick_of_a_num(self):
        self.becomes("(pick 3 (1 a) (3 b) (else x x))", "b")
        self.becomes("(pick 3 (1 a) (else x (con 0 x x)))", "(con 0 3 3)")
        self.becomes("(pick -1 (1 a) (-1 b))", "b")
        self.stays("(pick 3 (1 a))", "(pick 3)", "(pick a (3 b) (else x x))", "(pick (note 1 3) (3 b))", "(pick (con 0) (0 b))")

    def test_7_a_prim_of_two_nums(self):
        for text, expected in (("(+ 2 3)", "5"), ("(- 2 3)", "-1"), ("(* 2 3)", "6"), ("(div -7 2)", "-4"),
                               ("(mod -7 2)", "1"), ("(== 2 2)", "(con 1)"), ("(< 3 2)", "(con 0)"), ("(<= 2 2)", "(con 1)"),
                               ("(- 1000000000000000 0)", "1000000000000000")):
            self.becomes(text, expected)
        self.stays("(div 1 0)", "(mod 1 0)", "(+ 1000000000000000 1)", "(- -1000000000000000 1)",
                   "(* 1000000000000000 -2)", "(+ a 1)", "(+ 1 a)", "(+ (note 1 2) 3)", "(+ 1 (con 0))")

    def test_steps_after_steps(self):
        self.becomes("((lam x y (+ x y)) 1 2)", "3")
        self.becomes("(case (< 1 2) (0 () a) (1 () b))", "b")
        self.becomes("(let (x (con 0 1 2)) (case x (0 (y z) (+ y z))))", "3")
        self.becomes("(let (k (lam x y x)) (k a b))", "a")
        self.becomes("((lam x (case x (0 () a) (1 (y z) y))) (con 1 (f a) b))", "(f a)")
        self.becomes("(pick (+ 1 1) (2 (let (x a) (f x x))) (else x x))", "(f a a)")
        self.becomes("((let (x a) (lam y (con 0 x y))) b)", "(con 0 a b)")
        self.becomes("((case (con 0) (0 () (lam y (f y)))) b)", "(f b)")
        self.becomes("(let (x (let (y 2) (+ y y))) (con 0 x x))", "(con 0 4 4)")

    def test_also_within_other_terms(self):
        for place in ("(lam u {})", "(f {})", "({} f)", "(let (u (f {} u)) (con 0 u u))", "(let (u (f u)) (con 0 u u {}))",
                      "(seq u {} u)", "(seq u a {})", "(con 0 {} a)", "(case {} (0 () a))", "(case a (0 (u) {}))",
                      "(case a (else u {}))", "(pick {} (0 a))", "(pick a (0 {}))", "(pick a (else u {}))", "(+ {} a)",
                      "(+ a {})", "(note 1 {})"):
            for text, expected in (("((lam x (f x)) a)", "(f a)"), ("(let (x 1) (f b))", "(f b)"),
                                   ("(case (con 0) (0 () (f a)))", "(f a)"), ("(pick 1 (1 (f b)))", "(f b)"),
                                   ("(f (+ 1 1))", "(f 2)")):
                self.becomes(place.format(text), place.format(expected))

    def test_names_that_look_like_something_else(self):
        for name in ("+", "var", "num", "let", "lam", "body", "own", "None", "0", "n.1"):
            var = ("var", name)
            for own, body, expected in ((("num", 5), ("prim", "+", var, ("var", "f")), "(+ 5 f)"),
                                        (term("(f f)"), ("prim", "+", var, ("var", "f")), "(+ (f f) f)"),
                                        (term("(f f)"), ("con", 0, (var, var)), "(let (x (f f)) (con 0 x x))"),
                                        (var, ("con", 0, (var, var)), "(let (x x) (con 0 x x))"),
                                        (term("(f f)"), ("lam", "a", ("prim", "*", ("var", "a"), ("var", "a"))),
                                         "(lam a (* a a))")):
                whole = ((("main", ("let", ((name, own),), body)), ("f", ("num", 1))), "main")
                found = dict(simplify(whole)[0])["main"]
                with self.subTest((name, body)):
                    self.assertTrue(alike(found, term(expected)), found)

    def test_no_name_is_captured(self):
        self.becomes("((lam x y (con 0 x y)) b)", "(lam z (con 0 b z))")
        self.becomes("((lam x a (con 0 x a)) a)", "(lam z (con 0 a z))")
        self.becomes("(let (x a) (lam a (con 0 x a)))", "(lam z (con 0 a z))")
        self.becomes("(let (x (f a)) (seq a b (con 0 x a)))", "(seq z b (con 0 (f a) z))")
        self.becomes("(case (con 0 b (f a)) (0 (a b) (con 0 a a b b)))", "(let (y (f a)) (con 0 b b y y))")
        self.becomes("((lam x x (con 0 x)) a b)", "(con 0 b)")
        self.becomes("(let (x (f a)) (case b (0 (a) (con 0 a x))))", "(case b (0 (z) (con 0 z (f a))))")
        self.becomes("((lam g (g a)) g)", "(g a)")


class ProgramTest(unittest.TestCase):
    def names(self, text, expected):
        with self.subTest(text):
            new = simplify(program(text))
            self.assertEqual([name for name, _ in new[0]], expected.split())
            self.assertEqual(new[1], "main")
            self.assertIsNone(check_program(new))

    def test_what_main_does_not_reach_is_left_out(self):
        self.names("f = 1\nmain = (con 0)\ng = 2", "main")
        self.names("d = (lam x c)\nb = (lam x d)\nmain = (lam x b)\na = d\nc = 1", "d b main c")
        self.names("f = (lam x (f x))\nmain = (con 0)", "main")
        self.names("g = (lam x (f x))\nf = (lam x (g x))\nmain = f", "g f main")
        self.names("main = (lam x main)", "main")

    def test_also_what_it_reaches_no_more(self):
        self.names("f = 1\nmain = (let (x f) (con 0))", "main")
        self.names("f = 1\nmain = (case (con 0) (0 () (con 0)) (1 () f))", "main")
        self.names("f = 1\ng = f\nmain = (pick 1 (1 (con 0)) (else x g))", "main")
        self.names("f = 1\nmain = ((lam f f) (con 0))", "main")

    def test_definitions_are_not_put_in_the_place_of_their_names(self):
        self.assertEqual(simplify(program("one = 1\nmain = (con 1 one (con 0))")),
                         program("one = 1\nmain = (con 1 one (con 0))"))

    def test_another_main(self):
        new = simplify(((("main", ("num", 1)), ("start", term("(+ 1 1)"))), "start"))
        self.assertEqual(new, ((("start", ("num", 2)),), "start"))

    def shows_the_same(self, whole, fuel):
        before = repr(whole)
        new = simplify(whole)
        self.assertEqual(repr(whole), before)
        self.assertIsNone(check_program(new))
        self.assertTrue(is_apart(new))
        self.assertLessEqual(program_size(new), program_size(whole))
        for _, each in new[0]:
            self.assertEqual(steps(each), set())
        events, state, done = shown(whole, fuel)
        new_events, new_state, new_done = shown(new, fuel)
        self.assertNotEqual(state, ("stuck",))
        old_pages, new_pages = pages(events), pages(new_events)
        self.assertEqual(new_pages[:len(old_pages)], old_pages)
        if state[0] in ("end", "fault"):
            self.assertEqual(new_state, state)
            self.assertLessEqual(new_done, done)

    def test_it_shows_the_same(self):
        for seed in range(700):
            self.shows_the_same(CoreMaker(seed, seed % 2 == 0).program(seed % 8), 300)

    def test_programs_of_texts_show_the_same(self):
        for text in ("main = take 5 (filter (\\x -> 0 < x mod 3) (iterate (\\x -> x * 2 - 1) 3))",
                     "data T = L | N T Int T\nsum2 t = case t of { L -> 0 ; N l x r -> sum2 l + x + sum2 r }\n"
                     "main = [sum2 (N (N L 1 L) 2 (N L (note 4 3) L)), fst (Pair 1 2), snd (Pair (1 div 0) 3), 1 div 0]",
                     "class C a where { c :: a -> Int }\ninstance C Int where { c n = n }\n"
                     "instance C a => C (List a) where { c xs = sum (map c xs) }\nmain = [c [[1, 2], [note 1 3]], c 4]",
                     "main = let xs = note 1 (upto 1 3) in [sum xs, note 2 (length xs), head (drop 3 xs)]"):
            for fuel in (10, 100, 3000):
                self.shows_the_same(check(text), fuel)

    def test_simple_programs_stay(self):
        for seed in range(100):
            simple = simplify(CoreMaker(seed).program(5))
            self.assertEqual(simplify(simple), simple)


class DeepTest(unittest.TestCase):
    def test_deep_terms(self):
        a = ("var", "main")
        for place in (lambda e, k: ("app", e, a), lambda e, k: ("app", a, e), lambda e, k: ("lam", "x", e),
                      lambda e, k: ("app", ("lam", "x", e), a), lambda e, k: ("app", ("lam", "x", ("var", "x")), e),
                      lambda e, k: ("let", (("x", e),), ("con", 0, (("var", "x"), ("var", "x")))),
                      lambda e, k: ("let", (("x", ("app", a, a)),), ("app", e, ("var", "x"))),
                      lambda e, k: ("let", (("x", e),), ("app", a, ("var", "x"))),
                      lambda e, k: ("seq", "x", e, a), lambda e, k: ("seq", "x", a, e), lambda e, k: ("con", 0, (e,)),
                      lambda e, k: ("case", e, (), ("x", a)), lambda e, k: ("case", a, (), ("x", e)),
                      lambda e, k: ("case", ("con", 0, (a,)), ((0, ("x",), e),), None),
                      lambda e, k: ("case", ("con", 0, (e,)), ((0, ("x",), ("var", "x")),), None),
                      lambda e, k: ("pick", a, ((0, e),), None), lambda e, k: ("pick", ("num", 0), ((0, e),), None),
                      lambda e, k: ("pick", e, ((5, ("num", 5)),), None),
                      lambda e, k: ("prim", "+", e, a), lambda e, k: ("prim", "*", ("num", 1), e),
                      lambda e, k: ("note", 1, e)):
            for deep in (("num", 5), a):
                for k in range(199):
                    deep = place(deep, k)
                whole = ((("main", deep),), "main")
                with self.subTest(place(a, 0)):
                    self.assertIsNone(check_program(simplify(whole)))
                    self.assertTrue(is_apart(rename_apart(whole)))

    def test_terms_that_become_deeper(self):
        """Many terms, each 150 deep, are put one into the other."""
        pairs, last = [], ("var", "main")
        body = ("var", "x0")
        for index in range(20):
            own = ("var", f"x{index + 1}") if index < 19 else last
            for _ in range(150):
                own = ("app", ("var", "main"), own)
            pairs.append((f"x{index}", own))
        term_of_lets = body
        for name, own in pairs:
            term_of_lets = ("let", ((name, own),), term_of_lets)
        new = simplify(((("main", term_of_lets),), "main"))
        self.assertEqual(new[0][0][1][0], "app")
        self.assertEqual(size(new[0][0][1]), 1 + 2 * 150 * 20)


if __name__ == "__main__":
    unittest.main()

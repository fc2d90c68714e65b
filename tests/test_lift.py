"""Lifted programs: points 7.1 to 7.3."""

import unittest

from needonce.apply_table import apply_table
from needonce.checker import check
from needonce.core import bound_names, check_program, is_apart, program_size
from needonce.errors import CoreError, MainIsFunction, NeedError
from needonce.lift import core_of_lifted, lift
from needonce.meaning import shown
from needonce.simplify import rename_apart, simplify
from needonce.strict import make_table
from tests.core_making import CoreMaker
from tests.core_text import program, term
from tests.slow import free, pages, parts
from tests.slow_code import lam_free, unlifted, with_inner


def renamed(term, names):
    if term[0] == "var":
        return ("var", names.get(term[1], term[1]))
    return with_inner(term, lambda inner: renamed(inner, names))


def in_order(lifted, many):
    """The lifted program in which the functions behind the first `many` are called new1, new2 and so on, in the order
    in which their names first stand in the functions, and stand in this order."""
    functions, main = lifted
    found = {}
    new = {name: (params, body) for name, params, body in functions[many:]}

    def look(term):
        if term[0] == "var" and term[1] in new and term[1] not in found:
            found[term[1]] = f"new{len(found) + 1}"
            queue.append(term[1])
        for _, inner in parts(term):
            look(inner)

    queue = []
    for _, _, body in functions[:many]:
        look(body)
    for name in queue:
        look(new[name][1])
    assert len(found) == len(new)
    rows = [*functions[:many], *[(name, *new[name]) for name in queue]]
    return tuple((found.get(name, name), params, renamed(body, found)) for name, params, body in rows), main


class LiftCase(unittest.TestCase):
    def lifts(self, text, *rows):
        """rows: (name, params, text of the body)."""
        whole = program(text)
        lifted = lift(whole)
        expected = tuple((name, tuple(params.split()), term(body)) for name, params, body in rows)
        self.assertEqual(in_order(lifted, len(whole[0])), (expected, "main"))
        self.assertEqual([name for name, _, _ in lifted[0]][:len(whole[0])], [name for name, _ in whole[0]])


class DefinitionTest(LiftCase):
    def test_definitions_become_functions_in_their_order(self):
        self.lifts("z = (lam x y (+ x y))\nmain = (con 0)\na = 3", ("z", "x y", "(+ x y)"), ("main", "", "(con 0)"),
                   ("a", "", "3"))

    def test_all_lams_at_the_beginning_are_params(self):
        self.lifts("f = (lam z y x a b c d (f a))\nmain = (con 0)", ("f", "z y x a b c d", "(f a)"),
                   ("main", "", "(con 0)"))

    def test_other_terms_stay(self):
        text = "(let (u (seq v a v)) (w (con 3 u)) (case w (3 (q) (pick q (1 (note 2 q)) (else r (- r 1)))) (else s u)))"
        self.lifts(f"f = (lam a {text})\nmain = (con 0)", ("f", "a", text), ("main", "", "(con 0)"))

    def test_main_stays(self):
        self.lifts("main = (f 1)\nf = (lam x (con 1 x main))", ("main", "", "(f 1)"), ("f", "x", "(con 1 x main)"))

    def test_main_with_lams(self):
        for text in ("(lam x (con 0))", "(lam x y (con 0))", "(lam x (lam y x))"):
            for rows in (f"main = {text}", f"f = 1\nmain = {text}\ng = (lam q q)"):
                with self.assertRaises(MainIsFunction) as raised:
                    lift(program(rows))
                self.assertIsInstance(raised.exception, CoreError)
                self.assertIsInstance(raised.exception, NeedError)
        self.lifts("main = (let (f (lam x x)) (f f))", ("main", "", "(let (f new1) (f f))"), ("new1", "x", "x"))

    def test_another_main(self):
        definitions = program("main = (lam x x)\nstart = (main start)")[0]
        self.assertEqual(lift((definitions, "start")),
                         ((("main", ("x",), ("var", "x")), ("start", (), term("(main start)"))), "start"))
        with self.assertRaises(MainIsFunction):
            lift((definitions, "main"))


class LamTest(LiftCase):
    def test_a_lam_in_each_place(self):
        lam = "(lam x (+ x b))"
        for place in ("(let (u {}) (u a))", "(let (u a) {})", "(let (u {}) (v u) v)", "(let (u u) (v {}) v)",
                      "(seq u {} a)",
                      "(seq u a {})", "(con 1 {})", "(con 1 a {})", "(case {} (0 () a))", "(case a (0 () {}))",
                      "(case a (0 () a) (1 (u) {}))", "(case a (else u {}))", "(case a (0 () b) (else u {}))",
                      "(pick {} (0 a))", "(pick a (0 {}))", "(pick a (1 b) (0 {}) (else u a))", "(pick a (else u {}))",
                      "(+ {} a)", "(+ a {})", "(note 1 {})", "({} a)", "(a {})", "(a b {})", "({} a b)", "(a {} b)"):
            self.lifts(f"main = (con 0)\nf = (lam a b {place.format(lam)})", ("main", "", "(con 0)"),
                       ("f", "a b", place.format("(new1 b)")), ("new1", "b x", "(+ x b)"))

    def test_lams_that_follow_each_other(self):
        self.lifts("main = (note 1 (lam z y x (con 0 x y z)))", ("main", "", "(note 1 new1)"),
                   ("new1", "z y x", "(con 0 x y z)"))
        self.lifts("f = (lam a (note 1 (lam z y (a y))))\nmain = (con 0)", ("f", "a", "(note 1 (new1 a))"),
                   ("main", "", "(con 0)"), ("new1", "a z y", "(a y)"))
        self.lifts("main = (note 1 (lam x (note 2 (lam y (con 0 x y)))))", ("main", "", "(note 1 new1)"),
                   ("new1", "x", "(note 2 (new2 x))"), ("new2", "x y", "(con 0 x y)"))

    def test_captured_names_ascend(self):
        self.lifts("f = (lam b a C c9 c10 (note 1 (lam x (con 0 c9 b C x a c10 b))))\nmain = (con 0)",
                   ("f", "b a C c9 c10", "(note 1 (new1 C a b c10 c9))"), ("main", "", "(con 0)"),
                   ("new1", "C a b c10 c9 x", "(con 0 c9 b C x a c10 b)"))

    def test_every_binder_is_captured(self):
        self.lifts("f = (lam a (let (b a) (seq c b (case c (1 (d e) (pick d (0 e) (else g (note 1 (lam x"
                   " (con 9 g e d c b a x))))) ) (else h (note 2 (lam y (h y))))))))\nmain = (con 0)",
                   ("f",
                    "a", "(let (b a) (seq c b (case c (1 (d e) (pick d (0 e) (else g (note 1 (new1 a b c d e g)))))"
                              " (else h (note 2 (new2 h))))))"), ("main", "", "(con 0)"),
                   ("new1", "a b c d e g x", "(con 9 g e d c b a x)"), ("new2", "h y", "(h y)"))

    def test_global_names_are_not_captured(self):
        self.lifts("f = (lam a (note 1 (lam x (f (g (main a)) x))))\ng = 1\nmain = (con 0)",
                   ("f", "a", "(note 1 (new1 a))"), ("g", "", "1"), ("main", "", "(con 0)"),
                   ("new1", "a x", "(f (g (main a)) x)"))

    def test_names_bound_within_the_lam_are_not_captured(self):
        self.lifts("main = (note 1 (lam x (let (y (con 0 x)) (seq z y (case z (0 (w) (w z)))))))",
                   ("main", "", "(note 1 new1)"), ("new1", "x", "(let (y (con 0 x)) (seq z y (case z (0 (w) (w z)))))"))

    def test_none_captured(self):
        self.lifts("main = (con 1 (lam x x) (lam y 3))", ("main", "", "(con 1 new1 new2)"), ("new1", "x", "x"),
                   ("new2", "y", "3"))

    def test_lams_within_lams(self):
        self.lifts("f = (lam a b (note 1 (lam x (con 0 (lam y (con 0 a x (lam z (con 0 z y x)))) b))))\nmain = (con 0)",
                   ("f", "a b", "(note 1 (new1 a b))"), ("main", "", "(con 0)"),
                   ("new1", "a b x", "(con 0 (new2 a x) b)"), ("new2", "a x y", "(con 0 a x (new3 x y))"),
                   ("new3", "x y z", "(con 0 z y x)"))

    def test_lams_in_what_a_captured_name_stands_for(self):
        self.lifts("f = (lam a (let (u (lam x (+ a x))) (note 1 (lam y (u y)))))\nmain = (con 0)",
                   ("f", "a", "(let (u (new1 a)) (note 1 (new2 u)))"), ("main", "", "(con 0)"),
                   ("new1", "a x", "(+ a x)"), ("new2", "u y", "(u y)"))
        self.lifts("main = (let (u (lam x (v x))) (v (lam y (u y))) (u 1))",
                   ("main", "", "(let (u (new1 v)) (v (new2 u)) (u 1))"), ("new1", "v x", "(v x)"),
                   ("new2", "u y", "(u y)"))

    def test_lams_in_arguments_of_lams(self):
        self.lifts("main = ((lam x (con 0 x)) (lam y (lam z y)))", ("main", "", "(new1 new2)"),
                   ("new1", "x", "(con 0 x)"),
                   ("new2", "y z", "y"))


class NameTest(unittest.TestCase):
    def check_names(self, whole):
        """The new functions' names are used nowhere else, and no name is bound twice in a function."""
        functions, main = lift(whole)
        self.assertEqual(main, whole[1])
        names = [name for name, _, _ in functions]
        self.assertEqual(len(set(names)), len(names))
        used = {name for name, _ in whole[0]}.union(*[bound_names(each) for _, each in whole[0]])
        self.assertFalse(used & set(names[len(whole[0]):]))
        for name, params, body in functions:
            bound = [*params, *bound_names(body)]
            self.assertEqual(len(set(bound)), len(bound))
            self.assertFalse(set(bound) & set(names))
            self.assertLessEqual(free(body), set(params) | set(names))

    def test_new_names_are_not_used(self):
        self.check_names(program("n.1 = (lam n.2 (note 1 (lam n.3 (con 0 n.3 n.2 n.1))))\n"
                                 "main = (let (n.4 (lam n.5 n.5)) (n.4 0))"))

    def test_by_chance(self):
        for seed in range(300):
            whole = CoreMaker(seed).program()
            lifted = lift(whole)
            self.assertEqual(unlifted(lifted, [name for name, _ in whole[0]]), whole)
            names = [name for name, _, _ in lifted[0]]
            self.assertEqual(names[:len(whole[0])], [name for name, _ in whole[0]])
            self.assertTrue(all(lam_free(body) for _, _, body in lifted[0]))
            self.assertIsNone(check_program(core_of_lifted(lifted)))

    def test_names_by_chance(self):
        for seed in range(150):
            whole = rename_apart(CoreMaker(seed, apart=False).program(3))
            self.assertTrue(is_apart(whole))
            self.check_names(whole)

    def test_programs_of_texts(self):
        text = "main = let k = 3 in map (\\x -> foldr (\\y r -> y + x + k + r) 0 [1, 2]) (filter (\\z -> z < k) [1, 2, 3])"
        whole = simplify(check(text))
        for each in (whole, apply_table(whole, make_table(whole))):
            lifted = lift(each)
            self.assertEqual(unlifted(lifted, [name for name, _ in each[0]]), each)
            self.assertEqual(shown(core_of_lifted(lifted), 5000)[0], shown(each, 5000)[0])


class CoreTest(unittest.TestCase):
    def test_each_param_is_a_lam(self):
        lifted = ((("f", ("b", "a"), term("(con 0 a b)")), ("main", (), ("num", 1)), ("g", ("z",), term("(f z)"))),
                  "main")
        self.assertEqual(core_of_lifted(lifted), program("f = (lam b a (con 0 a b))\nmain = 1\ng = (lam z (f z))"))

    def test_it_shows_the_same(self):
        for seed in range(200):
            whole = CoreMaker(seed).program()
            one, other = pages(shown(whole, 1500)[0]), pages(shown(core_of_lifted(lift(whole)), 1500)[0])
            many = min(len(one), len(other))
            self.assertEqual(one[:many], other[:many])

    def test_arguments_stay(self):
        whole = CoreMaker(5).program()
        before = repr(whole)
        lifted = lift(whole)
        again = repr(lifted)
        core_of_lifted(lifted)
        self.assertEqual((repr(whole), repr(lifted)), (before, again))
        self.assertGreater(program_size(core_of_lifted(lifted)), 0)


if __name__ == "__main__":
    unittest.main()

"""No part calls itself for each level of a tree, a term or a type: point 0.5 holds with few calls, and far beyond 200."""

import inspect
import sys
import unittest

from needonce.apply_table import apply_table
from needonce.check import check_code
from needonce.code import compile_program
from needonce.core import bound_names, check_program, free_names, is_apart, is_term, size
from needonce.elaborate import elaborate
from needonce.image import read_image, write_image
from needonce.infer import infer_program
from needonce.lift import core_of_lifted, lift
from needonce.meaning import head_of, shown
from needonce.normal import core_of, is_normal, normal_form
from needonce.run import run_code
from needonce.simplify import rename_apart, simplify
from needonce.strict import holds_table, lead, make_table
from tests.core_text import program
from tests.test_infer import AROUND, DEEP, define

CALLS = 70
GLOBALS = "main = (con 0)\ntwo = (lam t1 t2 (+ t2 t1))"
A, ONE = ("var", "a"), ("num", 1)
PLACES = (
    lambda e, k: ("app", e, ONE), lambda e, k: ("app", ("var", "main"), e), lambda e, k: ("lam", f"x{k}", e),
    lambda e, k: ("app", ("lam", f"x{k}", e), A), lambda e, k: ("app", ("app", ("var", "two"), e), A),
    lambda e, k: ("let", ((f"x{k}", e),), ("prim", "+", ("var", f"x{k}"), A)), lambda e, k: ("let", ((f"x{k}", A),), e),
    lambda e, k: ("let", ((f"x{k}", e),), ("con", 0, (("var", f"x{k}"),) * 2)), lambda e, k: ("seq", f"x{k}", e, A),
    lambda e, k: ("seq", f"x{k}", A, e), lambda e, k: ("con", 1, (ONE, e)), lambda e, k: ("case", e, (), (f"x{k}", A)),
    lambda e, k: ("case", A, ((0, (f"x{k}",), e),), (f"y{k}", e if k == 0 else A)),
    lambda e, k: ("case", ("prim", "==", A, ONE), ((0, (), e), (1, (), A)), None),
    lambda e, k: ("pick", A, ((1, e),), (f"x{k}", A)), lambda e, k: ("pick", e, (), (f"x{k}", A)),
    lambda e, k: ("prim", "==", e, A), lambda e, k: ("prim", "==", A, e), lambda e, k: ("note", 1, e),
)


class DepthTest(unittest.TestCase):
    def setUp(self):
        self.limit = sys.getrecursionlimit()
        sys.setrecursionlimit(len(inspect.stack()) + CALLS)

    def tearDown(self):
        sys.setrecursionlimit(self.limit)

    def test_terms(self):
        for place in PLACES:
            deep = A
            for k in range(300):
                deep = place(deep, k)
            whole = program(GLOBALS)
            whole = (((*whole[0], ("f", ("lam", "a", deep)))), "f")
            self.assertTrue(is_term(deep))
            self.assertEqual((is_apart(whole), free_names(deep)[0]), (True, "a"))
            self.assertLessEqual(len(bound_names(deep)), size(deep))
            check_program(whole)
            table = make_table(whole)
            self.assertTrue(holds_table(whole, table))
            lead(whole, table, deep)
            check_program(apply_table(whole, table))
            check_program(rename_apart(whole))
            check_program(simplify(whole))
            head_of(whole, ("app", ("var", "f"), ONE), 3000)
            shown(whole, 10)
            self.to_code(whole[0])

    def to_code(self, definitions):
        """From a core program that calls the deep function to what its code shows."""
        call = ("con", 1, (("app", ("var", "f"), ONE), ("con", 0, ())))
        lifted = lift(((*definitions, ("start", call)), "start"))
        check_program(core_of_lifted(lifted))
        normal = normal_form(lifted)
        self.assertTrue(is_normal(normal))
        check_program(core_of(normal))
        code = compile_program(*normal)
        self.assertIsNone(check_code(code))
        row = write_image(code)
        self.assertEqual(write_image(read_image(row)), row)
        run_code(code, 5000, [100, 500], 3000)

    def test_trees(self):
        for tree in DEEP.values():
            declarations = (*AROUND, define("main", tree))
            self.assertEqual(len(infer_program(declarations)), 4)
            self.assertEqual(len(elaborate(declarations)[0]), 7)


if __name__ == "__main__":
    unittest.main()

"""Compiling: points 8.1 to 8.5."""

import unittest

from needonce.check import check_code
from needonce.code import compile_program
from needonce.errors import BadArity, CodeError, NeedError, Unknown
from needonce.lift import lift
from needonce.normal import normal_form
from tests.code_making import NormalMaker
from tests.core_making import CoreMaker
from tests.slow_code import Wrong, slow_compile

MAIN = ("main", (), ("con", 0, ()))


def atom(thing):
    return ("atom", thing)


def later(body):
    return ("later", body)


def slot(index):
    return ("slot", index)


def number(value):
    return ("number", value)


def give(index):
    return ("give", ("slot", index))


ONE = ("give", ("number", 1))
GLOBAL_F = ("global", 2)


class CodeCase(unittest.TestCase):
    """The params are a and b; main is the function 0, use is 1, f is 2 (of three params), g is 3 (of none)."""

    def functions(self, body):
        return (MAIN, ("use", ("a", "b"), body), ("f", ("p", "q", "r"), atom("q")), ("g", (), atom(1)))

    def becomes(self, body, expected):
        with self.subTest(body):
            code = compile_program(self.functions(body), "main")
            self.assertEqual(code, (((0, ("con", 0, ())), (2, expected), (3, give(1)), (0, ONE)), 0))
            self.assertIsNone(check_code(code))


class BodyTest(CodeCase):
    def test_operands(self):
        self.becomes(atom("a"), ("give", slot(0)))
        self.becomes(atom("b"), ("give", slot(1)))
        self.becomes(atom("main"), ("give", ("global", 0)))
        self.becomes(atom("f"), ("give", ("global", 2)))
        self.becomes(atom("g"), ("give", ("global", 3)))
        self.becomes(atom(0), ("give", number(0)))
        self.becomes(atom(-10 ** 15), ("give", number(-10 ** 15)))

    def test_calls(self):
        self.becomes(("call", "f", ("a",)), ("call", GLOBAL_F, (slot(0),)))
        self.becomes(("call", "b", (5, "a", "b", "use")), ("call", slot(1),
                                                           (number(5), slot(0), slot(1), ("global", 1))))
        self.becomes(("call", "f", (1, 2, 3, 4, 5)), ("call", GLOBAL_F, tuple(number(k) for k in (1, 2, 3, 4, 5))))

    def test_cons(self):
        self.becomes(("con", 0, ()), ("con", 0, ()))
        self.becomes(("con", 17, ("b", "g", 2)), ("con", 17, (slot(1), ("global", 3), number(2))))

    def test_prims(self):
        for sign in ("+", "-", "*", "div", "mod", "==", "<", "<="):
            self.becomes(("prim", sign, "b", 2), ("prim", sign, slot(1), number(2)))
        self.becomes(("prim", "+", "g", "a"), ("prim", "+", ("global", 3), slot(0)))

    def test_lets(self):
        self.becomes(("let", (("x", ("con", 0, ("y", "x", "a"))), ("y", ("part", "f", ("x", 1)))),
                      ("call", "y", ("x", "b"))),
                     ("let", (("con", 0, (slot(3), slot(2), slot(0))), ("part", 2, (slot(2), number(1)))),
                      ("call", slot(3), (slot(2), slot(1)))))
        self.becomes(("let", (("x", ("con", 0, ())),), ("let", (("y", ("con", 1, ("x",))),), atom("y"))),
                     ("let", (("con", 0, ()),), ("let", (("con", 1, (slot(2),)),), give(3))))

    def test_seqs(self):
        self.becomes(("seq", "x", atom("a"), ("seq", "y", atom("x"), ("con", 0, ("x", "y", "b")))),
                     ("seq", give(0), ("seq", give(2), ("con", 0, (slot(2), slot(3), slot(1))))))
        self.becomes(("seq", "x", ("seq", "y", atom("a"), atom("y")), atom("x")),
                     ("seq", ("seq", give(0), give(2)), give(2)))

    def test_cases(self):
        self.becomes(("case", atom("a"), ((0, (), atom("b")), (1, ("x", "y"), ("call", "y", ("x",)))), None),
                     ("case", give(0), ((0, 0, give(1)), (1, 2, ("call", slot(3), (slot(2),)))), None))
        self.becomes(("case", ("case", atom("a"), (), ("x", atom("x"))), ((7, ("x",), atom("x")),), ("y", atom("y"))),
                     ("case", ("case", give(0), (), give(2)), ((7, 1, give(2)),), give(2)))
        self.becomes(("case", atom(1), (), None), ("case", ONE, (), None))
        self.becomes(("case", atom("a"), ((1, ("x", "y", "z"), ("seq", "w", atom("z"), atom("w"))),), None),
                     ("case", give(0), ((1, 3, ("seq", give(4), give(5))),), None))

    def test_picks(self):
        self.becomes(("pick", atom("a"), ((-3, atom("b")), (0, ("seq", "x", atom("a"), atom("x")))), None),
                     ("pick", give(0), ((-3, give(1)), (0, ("seq", give(0), give(2)))), None))
        self.becomes(("pick", atom("a"), (), ("x", ("con", 0, ("x", "a")))),
                     ("pick", give(0), (), ("con", 0, (slot(2), slot(0)))))

    def test_notes(self):
        self.becomes(("note", 10 ** 12, ("note", 0, atom("b"))), ("note", 10 ** 12, ("note", 0, give(1))))


class DepthTest(CodeCase):
    def test_depths_within(self):
        """A let at the depth 2 is put in each place; the slot of its name tells the depth there."""
        inner = ("let", (("z", later(atom("z"))),), ("con", 0, ("z", "a")))

        def at(depth):
            return ("let", (("later", (slot(depth),), give(0)),), ("con", 0, (slot(depth), slot(0))))

        self.becomes(inner, at(2))
        self.becomes(("seq", "x", inner, inner), ("seq", at(2), at(3)))
        self.becomes(("let", (("x", ("con", 0, ())), ("y", ("con", 0, ()))), inner),
                     ("let", (("con", 0, ()), ("con", 0, ())), at(4)))
        self.becomes(("case", inner, ((0, (), inner), (1, ("x", "y", "u"), inner)), ("x", inner)),
                     ("case", at(2), ((0, 0, at(2)), (1, 3, at(5))), at(3)))
        self.becomes(("pick", inner, ((0, inner),), ("x", inner)), ("pick", at(2), ((0, at(2)),), at(3)))
        self.becomes(("note", 1, inner), ("note", 1, at(2)))

    def test_depths_in_laters(self):
        self.becomes(("let", (("x", later(("seq", "y", atom("b"), ("con", 0, ("y", "b"))))),), atom("x")),
                     ("let", (("later", (slot(1),), ("seq", give(0), ("con", 0, (slot(1), slot(0))))),), give(2)))
        self.becomes(("let", (("x", later(("case", atom("b"), ((1, ("u", "v"), ("con", 0, ("v", "a"))),), None))),),
                      atom("x")),
                     ("let", (("later", (slot(0), slot(1)), ("case", give(1),
                                                             ((1, 2, ("con", 0, (slot(3), slot(0)))),), None)),),
                      give(2)))


class LaterTest(CodeCase):
    def later(self, body, slots, expected):
        """A later under the names a, b, x (it itself) and y; the slots that it takes, and its code."""
        self.becomes(("let", (("x", later(body)), ("y", ("con", 0, ()))), atom("x")),
                     ("let", (("later", tuple(slot(each) for each in slots), expected), ("con", 0, ())), give(2)))

    def test_operands_ascend_without_duplicates(self):
        self.later(("con", 0, ("y", "a", "x", "y", "b", "a")), (0, 1, 2, 3),
                   ("con", 0, (slot(3), slot(0), slot(2), slot(3), slot(1), slot(0))))
        self.later(("con", 0, ("y", "a", "y")), (0, 3), ("con", 0, (slot(1), slot(0), slot(1))))
        self.later(("call", "y", ("b",)), (1, 3), ("call", slot(1), (slot(0),)))
        self.later(("prim", "-", "b", "a"), (0, 1), ("prim", "-", slot(1), slot(0)))
        self.later(("prim", "-", 1, "x"), (2,), ("prim", "-", number(1), slot(0)))

    def test_no_operands(self):
        self.later(atom(1), (), ONE)
        self.later(("call", "f", (1, "g")), (), ("call", GLOBAL_F, (number(1), ("global", 3))))
        self.later(("seq", "u", atom(1), atom("u")), (), ("seq", ONE, give(0)))

    def test_names_bound_in_it_are_left_out(self):
        self.later(("seq", "a", atom("b"), atom("a")), (1,), ("seq", give(0), give(1)))
        self.later(("seq", "a", atom("a"), atom("a")), (0,), ("seq", give(0), give(1)))
        self.later(("let", (("a", later(atom("a"))),), atom("b")), (1,),
                   ("let", (("later", (slot(1),), give(0)),), give(0)))
        self.later(("case", atom("y"), ((0, ("a", "b"), atom("a")),), ("x", atom("x"))), (3,),
                   ("case", give(0), ((0, 2, give(1)),), give(1)))
        self.later(("pick", atom("y"), ((0, atom("b")),), ("a", atom("a"))), (1, 3),
                   ("pick", give(1), ((0, give(0)),), give(2)))

    def test_free_names_of_every_kind_of_body(self):
        for body, code in ((("seq", "u", atom("b"), atom("u")), ("seq", give(0), give(1))),
                           (("seq", "u", atom(1), atom("b")), ("seq", ONE, give(0))),
                           (("case", atom("b"), (), None), ("case", give(0), (), None)),
                           (("case", atom(1), ((0, ("u",), atom("b")),), None),
                            ("case", ONE, ((0, 1, give(0)),), None)),
                           (("case", atom(1), (), ("u", atom("b"))), ("case", ONE, (), give(0))),
                           (("pick", atom("b"), (), None), ("pick", give(0), (), None)),
                           (("pick", atom(1), ((4, atom("b")),), None), ("pick", ONE, ((4, give(0)),), None)),
                           (("pick", atom(1), (), ("u", atom("b"))), ("pick", ONE, (), give(0))),
                           (("note", 1, atom("b")), ("note", 1, give(0))),
                           (("let", (("u", ("con", 0, ("b",))),), atom("u")),
                            ("let", (("con", 0, (slot(0),)),), give(1))),
                           (("let", (("u", ("part", "f", ("b",))),), atom("u")),
                            ("let", (("part", 2, (slot(0),)),), give(1))),
                           (("let", (("u", later(atom("b"))),), atom("u")),
                            ("let", (("later", (slot(0),), give(0)),), give(1))),
                           (("let", (("u", ("con", 0, ())),), atom("b")), ("let", (("con", 0, ()),), give(0)))):
            self.later(body, (1,), code)

    def test_later_in_later(self):
        self.later(("let", (("u", later(("con", 0, ("b", "u", "y")))),), atom("a")), (0, 1, 3),
                   ("let", (("later", (slot(1), slot(2), slot(3)), ("con", 0, (slot(0), slot(2), slot(1)))),), give(0)))
        self.later(("let", (("u", later(("let", (("v", later(atom("y"))),), atom("v")))),), atom("u")), (3,),
                   ("let", (("later", (slot(0),), ("let", (("later", (slot(0),), give(0)),), give(1))),), give(1)))

    def test_laters_of_one_let(self):
        self.becomes(("let", (("x", later(atom("y"))), ("y", later(("call", "x", ("b",))))), atom("y")),
                     ("let", (("later", (slot(3),), give(0)), ("later", (slot(1), slot(2)),
                                                               ("call", slot(1), (slot(0),)))),
                      give(3)))


class HidingTest(CodeCase):
    def test_the_innermost_name(self):
        self.becomes(("seq", "a", atom("a"), atom("a")), ("seq", give(0), give(2)))
        self.becomes(("seq", "a", atom("b"), ("seq", "a", atom("a"), ("con", 0, ("a", "b")))),
                     ("seq", give(1), ("seq", give(2), ("con", 0, (slot(3), slot(1))))))
        self.becomes(("let", (("a", ("con", 0, ("a",))),), atom("a")), ("let", (("con", 0, (slot(2),)),), give(2)))
        self.becomes(("case", atom("a"), ((0, ("b", "a"), ("con", 0, ("a", "b"))),), ("a", atom("a"))),
                     ("case", give(0), ((0, 2, ("con", 0, (slot(3), slot(2)))),), give(2)))
        self.becomes(("pick", atom("a"), ((0, atom("a")),), ("a", atom("a"))),
                     ("pick", give(0), ((0, give(0)),), give(2)))

    def test_names_that_hide_functions(self):
        self.becomes(("seq", "f", atom("f"), ("call", "f", ("g",))),
                     ("seq", ("give", GLOBAL_F), ("call", slot(2), (("global", 3),))))
        self.assertEqual(compile_program((("f", ("g", "f"), ("call", "f", ("g", "h"))), ("g", (), atom("g")),
                                          ("h", (), atom("f"))), "g"),
                         (((2, ("call", slot(1), (slot(0), ("global", 2)))), (0, ("give", ("global", 1))),
                           (0, ("give", ("global", 0)))), 1))

    def test_the_function_of_a_part_is_a_global_one(self):
        self.becomes(("seq", "f", atom("a"), ("let", (("g", ("part", "f", ("f", "g"))),), atom("g"))),
                     ("seq", give(0), ("let", (("part", 2, (slot(2), slot(3))),), give(3))))
        self.becomes(("seq", "f", atom("a"), ("let", (("x", later(("let", (("y", ("part", "f", (1,))),), atom("y")))),
                                                      ), atom("x"))),
                     ("seq", give(0), ("let", (("later", (), ("let", (("part", 2, (number(1),)),), give(0))),),
                                       give(3))))

    def test_laters_take_the_innermost_slot(self):
        self.becomes(("seq", "a", atom("b"), ("let", (("x", later(("con", 0, ("a", "b")))),), atom("x"))),
                     ("seq", give(1), ("let", (("later", (slot(1), slot(2)), ("con", 0, (slot(1), slot(0)))),),
                                       give(3))))


class ProgramTest(unittest.TestCase):
    def test_the_index_of_main(self):
        functions = (("f", ("a",), atom("a")), ("g", (), atom("g")), ("main", (), atom("f")))
        self.assertEqual(compile_program(functions, "main"), (((1, give(0)), (0, ("give", ("global", 1))),
                                                              (0, ("give", ("global", 0)))), 2))
        self.assertEqual(compile_program(functions, "g")[1], 1)
        self.assertEqual(compile_program((MAIN,), "main"), (((0, ("con", 0, ())),), 0))

    def test_the_depth_at_the_beginning(self):
        self.assertEqual(compile_program((MAIN, ("f", ("c", "b", "a"), ("seq", "x", atom("a"), atom("x")))),
                                         "main")[0][1],
                         (3, ("seq", give(2), give(3))))

    def test_how_many_atoms_is_not_checked(self):
        self.assertEqual(compile_program((MAIN, ("f", ("a",), ("call", "f", ()))), "main")[0][1],
                         (1, ("call", ("global", 1), ())))
        self.assertEqual(compile_program((MAIN, ("f", ("a",), ("let", (("x", ("part", "f", (1, 2, 3))),), atom("x")))),
                                         "main")[0][1],
                         (1, ("let", (("part", 1, (number(1), number(2), number(3))),), give(1))))

    def test_by_chance(self):
        for seed in range(300):
            functions, main = NormalMaker(seed).program()
            before = repr(functions)
            code = compile_program(functions, main)
            self.assertEqual(code, slow_compile(functions, main))
            self.assertEqual(repr(functions), before)
            self.assertIsNone(check_code(code))
            functions, main = normal_form(lift(CoreMaker(seed).program()))
            code = compile_program(functions, main)
            self.assertEqual(code, slow_compile(functions, main))
            self.assertIsNone(check_code(code))


class UnknownTest(unittest.TestCase):
    def unknown(self, name, body, *more):
        with self.subTest(body):
            with self.assertRaises(Unknown) as raised:
                compile_program((MAIN, ("f", ("a", "b"), body), ("g", (), atom(1)), *more), "main")
            self.assertEqual(raised.exception.name, name)
            self.assertIsInstance(raised.exception, CodeError)
            self.assertIsInstance(raised.exception, NeedError)
            self.assertIsInstance(raised.exception, ValueError)

    def test_each_kind_of_body(self):
        self.unknown("u", atom("u"))
        self.unknown("u", ("call", "u", ("v", "w")))
        self.unknown("v", ("call", "a", ("v", "u")))
        self.unknown("u", ("call", "a", (1, "b", "u", "v")))
        self.unknown("v", ("con", 1, ("a", "v", "u")))
        self.unknown("v", ("prim", "+", "v", "u"))
        self.unknown("u", ("prim", "+", "a", "u"))
        self.unknown("u", ("note", 1, atom("u")))

    def test_lets(self):
        u, v = later(atom("u")), later(atom("v"))
        self.unknown("v", ("let", (("x", v), ("y", u)), atom("w")))
        self.unknown("u", ("let", (("x", later(atom("y"))), ("y", u)), atom("w")))
        self.unknown("w", ("let", (("x", later(atom("y"))), ("y", later(atom("x")))), atom("w")))
        self.unknown("u", ("let", (("x", ("con", 1, ("a", "u"))), ("y", v)), atom("w")))
        self.unknown("u", ("let", (("x", ("part", "u", ("v",))),), atom("w")))
        self.unknown("v", ("let", (("x", ("part", "f", ("v", "u"))),), atom("w")))
        self.unknown("a2", ("let", (("x", ("part", "a2", (1,))),), atom("w")))
        self.unknown("u", ("let", (("x", ("con", 0, ())), ("y", ("part", "f", ("u",)))), ("call", "v", (1,))))

    def test_parts_look_among_functions_alone(self):
        self.unknown("a", ("let", (("x", ("part", "a", ("v",))),), atom("w")))
        self.unknown("x", ("let", (("x", ("part", "x", (1,))),), atom("x")))
        self.unknown("a", ("let", (("y", later(("let", (("x", ("part", "a", (1,))),), atom("x")))),), atom("v")))

    def test_seqs_cases_and_picks(self):
        u, v, w = atom("u"), atom("v"), atom("w")
        self.unknown("u", ("seq", "x", u, v))
        self.unknown("v", ("seq", "x", atom("a"), v))
        self.unknown("x", ("seq", "x", atom("x"), v))
        self.unknown("w", ("case", w, ((1, (), u),), ("x", v)))
        self.unknown("u", ("case", atom("a"), ((1, (), u), (0, (), w)), ("x", v)))
        self.unknown("w", ("case", atom("a"), ((1, (), atom(1)), (0, ("x",), w)), ("x", v)))
        self.unknown("v", ("case", atom("a"), ((1, ("y",), atom("y")),), ("x", v)))
        self.unknown("y", ("case", atom("a"), ((1, ("y",), atom("y")),), ("x", atom("y"))))
        self.unknown("w", ("pick", w, ((1, u),), ("x", v)))
        self.unknown("u", ("pick", atom("a"), ((1, u), (0, w)), ("x", v)))
        self.unknown("w", ("pick", atom("a"), ((1, atom("b")), (0, w)), ("x", v)))
        self.unknown("v", ("pick", atom("a"), ((1, atom("b")),), ("x", v)))
        self.unknown("x", ("pick", atom("a"), ((1, atom("x")),), ("x", v)))

    def test_names_out_of_scope(self):
        self.unknown("x", ("seq", "y", ("seq", "x", atom(1), atom("x")), atom("x")))
        self.unknown("x", ("let", (("y", later(("seq", "x", atom(1), atom("x")))),), atom("x")))
        self.unknown("p", atom("p"), ("h", ("p",), atom("p")))
        self.unknown("u", ("let", (("y", later(("let", (("z", later(atom("u"))),), atom("v")))),), atom("w")))

    def test_functions_in_order(self):
        self.unknown("u", atom("u"), ("h", (), atom("v")))
        self.unknown("v", atom("h"), ("h", (), ("con", 0, ("v",))), ("k", (), atom("u")))
        with self.assertRaises(Unknown) as raised:
            compile_program((("f", (), ("seq", "x", atom("a2"), atom("a1"))), ("g", (), atom("a0"))), "none")
        self.assertEqual(raised.exception.name, "a2")


class MainTest(unittest.TestCase):
    def test_no_main(self):
        for functions in ((), (("f", (), atom(1)),), (("f", ("main",), atom("main")),)):
            with self.assertRaises(Unknown) as raised:
                compile_program(functions, "main")
            self.assertEqual(raised.exception.name, "main")

    def test_a_main_with_params(self):
        with self.assertRaises(BadArity) as raised:
            compile_program((("f", (), atom(1)), ("main", ("a",), atom("a"))), "main")
        self.assertEqual(raised.exception.name, "main")
        self.assertIsInstance(raised.exception, CodeError)
        self.assertIsInstance(raised.exception, NeedError)
        with self.assertRaises(BadArity) as raised:
            compile_program((("f", ("a", "b"), atom(1)), ("main", (), atom("main"))), "f")
        self.assertEqual(raised.exception.name, "f")

    def test_after_all_functions(self):
        with self.assertRaises(Unknown) as raised:
            compile_program((("main", ("a",), atom("a")), ("f", (), atom("u"))), "main")
        self.assertEqual(raised.exception.name, "u")
        with self.assertRaises(Unknown) as raised:
            compile_program((("f", (), atom("u")),), "main")
        self.assertEqual(raised.exception.name, "u")

    def test_by_chance(self):
        kinds = {"Unknown": 0, "BadArity": 0, "code": 0}
        for seed in range(400):
            functions, main = NormalMaker(seed, wild=True).program()
            try:
                expected = slow_compile(functions, main)
            except Wrong as wrong:
                error = {"Unknown": Unknown, "BadArity": BadArity}[wrong.args[0]]
                with self.assertRaises(error) as raised:
                    compile_program(functions, main)
                self.assertEqual(raised.exception.name, wrong.args[1])
                kinds[wrong.args[0]] += 1
            else:
                self.assertEqual(compile_program(functions, main), expected)
                kinds["code"] += 1
        self.assertGreater(min(kinds.values()), 10)


if __name__ == "__main__":
    unittest.main()

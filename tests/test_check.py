"""Checking code: point 8.6."""

import random
import unittest

from needonce.check import check_code
from needonce.code import compile_program
from needonce.errors import BadCode, CodeError, NeedError
from needonce.lift import lift
from needonce.normal import normal_form
from tests.code_making import CodeMaker, broken
from tests.core_making import CoreMaker
from tests.slow_code import slow_is_code

ONE = ("give", ("number", 1))
SLOTS = (("slot", 0), ("slot", 1))


class CheckCase(unittest.TestCase):
    """The body stands in a function of two params, among three functions."""

    def program(self, body):
        return (((0, ONE), (2, body), (3, ONE)), 0)

    def good(self, *bodies):
        for body in bodies:
            with self.subTest(body):
                self.assertIsNone(check_code(self.program(body)))

    def bad(self, *bodies):
        for body in bodies:
            with self.subTest(body):
                self.refuses(self.program(body))

    def refuses(self, program):
        before = repr(program)
        with self.assertRaises(BadCode) as raised:
            check_code(program)
        self.assertIsInstance(raised.exception, CodeError)
        self.assertIsInstance(raised.exception, NeedError)
        self.assertEqual(repr(program), before)

    def let(self, member):
        return ("let", (member,), ONE)

    def good_members(self, *members):
        self.good(*[self.let(member) for member in members])

    def bad_members(self, *members):
        self.bad(*[self.let(member) for member in members])


class OperandTest(CheckCase):
    def test_operands(self):
        good = (("slot", 0), ("slot", 1), ("global", 0), ("global", 2), ("number", 0), ("number", -1),
                ("number", 10 ** 30))
        bad = (("slot", 2), ("slot", -1), ("slot", True), ("slot", None), ("slot", "0"), ("slot",), ("slot", 0, 0),
               ["slot", 0],
               ("global", 3), ("global", -1), ("global", False), ("global", None), ("global", (0,)), ("global",),
               ("global", 0, 1),
               ("number", True), ("number", None), ("number", "1"), ("number",), ("number", 1, 1), ("number", (1,)),
               ("other", 0),
               ("", 0), (0, 0), (None, 0), (("slot",), 0), (["slot"], 0), ("give", 0), None, 0, "slot", (), True, ONE,
               ("con", 0, ()))
        for place in (lambda e: ("give", e), lambda e: ("call", e, SLOTS), lambda e: ("call", SLOTS[0], (e,)),
                      lambda e: ("call", SLOTS[0], (SLOTS[0], e)), lambda e: ("con", 0, (e,)),
                      lambda e: ("con", 0, (SLOTS[0], e)),
                      lambda e: ("prim", "+", e, SLOTS[0]), lambda e: ("prim", "+", SLOTS[0], e)):
            self.good(*[place(operand) for operand in good])
            self.bad(*[place(operand) for operand in bad])
        self.good_members(("con", 0, good), ("part", 1, good))
        self.bad_members(*[("con", 0, (SLOTS[0], operand)) for operand in bad if operand != ("slot", 2)],
                         *[("part", 1, (operand,)) for operand in bad if operand != ("slot", 2)])

    def test_slots_of_a_function(self):
        for arity in range(3):
            self.assertIsNone(check_code((((0, ONE), (arity + 1, ("give", ("slot", arity)))), 0)))
            self.refuses((((0, ONE), (arity, ("give", ("slot", arity)))), 0))


class BodyTest(CheckCase):
    def test_no_bodies(self):
        self.bad(None, True, False, 0, 1, "give", "", (), ("give",), ["give", ("number", 1)], ("slot", 0),
                 ("number", 1), ("later", (), ONE),
                 ("part", 1, ()), ("atom", 1), (1, ("number", 1)), (None, 1), (("give",), ("number", 1)),
                 (["give"], 1), ("", ONE),
                 ("end",), ("hole",))

    def test_gives(self):
        self.bad(("give", ("number", 1), 1), ("give", ONE), ("give", (("number", 1),)), ("give", 1))

    def test_calls(self):
        self.good(("call", SLOTS[0], SLOTS), ("call", ("number", 1), (("number", 1),)))
        self.bad(("call", SLOTS[0], ()), ("call", SLOTS[0]), ("call", SLOTS[0], list(SLOTS)),
                 ("call", SLOTS[0], SLOTS, 1),
                 ("call", SLOTS[0], None), ("call", SLOTS[0], SLOTS[0]), ("call", ONE, SLOTS), ("call", SLOTS, SLOTS),
                 ("call", None, SLOTS),
                 ("call", SLOTS[0], "slots"), ("call", SLOTS[0], 1), ("call",))

    def test_cons(self):
        self.good(("con", 0, ()), ("con", 10 ** 20, SLOTS), ("con", 7, SLOTS * 50))
        self.bad(("con", -1, ()), ("con", True, ()), ("con", None, ()), ("con", "0", ()), ("con", 0),
                 ("con", 0, (), ()), ("con", 0, []),
                 ("con", 0, None), ("con", 0, list(SLOTS)), ("con", 0, SLOTS[0]), ("con", ()), ("con", 0, ""),
                 ("con", (), 0))

    def test_prims(self):
        self.good(*[("prim", sign, *SLOTS) for sign in ("+", "-", "*", "div", "mod", "==", "<", "<=")])
        self.bad(*[("prim", sign, *SLOTS) for sign in ("", ">", "=", "+ ", "DIV", None, True, 0, ("+",), ["+"])],
                 ("prim", "+", SLOTS[0]), ("prim", "+", *SLOTS, SLOTS[0]), ("prim", "+", SLOTS),
                 ("prim", "+", ONE, SLOTS[0]), ("prim", "+"))

    def test_lets(self):
        later = ("later", (("slot", 2),), ("give", ("slot", 0)))
        self.good(("let", (later,), ("give", ("slot", 2))), ("let", (later, ("con", 0, (("slot", 3),))),
                                                             ("give", ("slot", 3))),
                  ("let", (("con", 0, (("slot", 4),)), later, later), ("let", (later,), ("give", ("slot", 5)))))
        self.bad(("let", (), ONE), ("let", [later], ONE), ("let", later, ONE), ("let", None, ONE), ("let", (later,)),
                 ("let", (later,), ONE, 1),
                 ("let", (later,), None), ("let", (later,), later), ("let", (later,), ("give", ("slot", 3))),
                 ("let", (("later", (("slot", 3),), ONE),), ONE), ("let", (later, ("con", 0, (("slot", 4),))), ONE),
                 ("let", "x", ONE),
                 ("let", (later,), ("let", (later,), ("give", ("slot", 4)))), ("let", 1, ONE))

    def test_seqs(self):
        self.good(("seq", ONE, ("give", ("slot", 2))), ("seq", ("seq", ONE, ONE), ("seq", ONE, ("give", ("slot", 3)))))
        self.bad(("seq", ("give", ("slot", 2)), ONE), ("seq", ONE, ("give", ("slot", 3))), ("seq", ONE),
                 ("seq", ONE, ONE, ONE), ("seq", None, ONE),
                 ("seq", ONE, None), ("seq", SLOTS[0], ONE), ("seq", ONE, SLOTS[0]),
                 ("seq", ("seq", ONE, ONE), ("give", ("slot", 3))))

    def test_cases(self):
        def case(*alternatives):
            return ("case", ONE, alternatives, None)

        self.good(case(), case((0, 0, ONE)), case((10 ** 20, 3, ("give", ("slot", 4))), (0, 0, ("give", ("slot", 1)))),
                  case((1, 0, ONE), (1, 0, ONE)),
                  ("case", ONE, (), ("give", ("slot", 2))), ("case", ONE, ((0, 2, ("give", ("slot", 3))),),
                                                             ("give", ("slot", 2))))
        self.bad(case((0, 0, ("give", ("slot", 2)))), case((0, 1, ("give", ("slot", 3)))), case((-1, 0, ONE)),
                 case((0, -1, ONE)), case((True, 0, ONE)),
                 case((0, False, ONE)), case((None, 0, ONE)), case((0, None, ONE)), case(("0", 0, ONE)),
                 case((0, (), ONE)), case((0, ONE)),
                 case((0, 0, ONE, 1)), case([0, 0, ONE]), case((0, 0, None)), case((0, 0, SLOTS[0])), case(None),
                 case(()), case(ONE),
                 ("case", ONE, [], None), ("case", ONE, None, None), ("case", ONE, 1, None), ("case", ONE, ()),
                 ("case", ONE, (), None, None),
                 ("case", None, (), None), ("case", SLOTS[0], (), None), ("case", ("give", ("slot", 2)), (), None),
                 ("case", ONE, (), ("give", ("slot", 3))), ("case", ONE, (), False), ("case", ONE, (), ()),
                 ("case", ONE, (), ("x", ONE)),
                 ("case", ONE, (), (1, ONE)), ("case", ONE, (), SLOTS[0]),
                 ("case", ONE, ((0, 5, ONE),), ("give", ("slot", 3))))

    def test_picks(self):
        def pick(*alternatives):
            return ("pick", ONE, alternatives, None)

        self.good(pick(), pick((0, ONE)), pick((-10 ** 20, ("give", ("slot", 1))), (10 ** 20, ONE)),
                  pick((1, ONE), (1, ONE)),
                  ("pick", ONE, (), ("give", ("slot", 2))))
        self.bad(pick((0, ("give", ("slot", 2)))), pick((True, ONE)), pick((None, ONE)), pick(("0", ONE)), pick((0,)),
                 pick((0, ONE, ONE)),
                 pick((0, 0, ONE)), pick([0, ONE]), pick((0, None)), pick((0, SLOTS[0])), pick(None), pick(()),
                 pick(((0,), ONE)),
                 ("pick", ONE, [], None), ("pick", ONE, None, None), ("pick", ONE, ()), ("pick", ONE, (), None, None),
                 ("pick", None, (), None),
                 ("pick", ("give", ("slot", 2)), (), None), ("pick", ONE, (), ("give", ("slot", 3))),
                 ("pick", ONE, (), True), ("pick", ONE, (), ()))

    def test_notes(self):
        self.good(("note", 0, ONE), ("note", -5, ONE), ("note", 10 ** 20, ("give", ("slot", 1))))
        self.bad(("note", True, ONE), ("note", None, ONE), ("note", "1", ONE), ("note", 1), ("note", 1, ONE, ONE),
                 ("note", 1, None),
                 ("note", 1, SLOTS[0]), ("note", 1, ("give", ("slot", 2))), ("note", ONE, 1), ("note", (1,), ONE))


class MemberTest(CheckCase):
    """The depth is 3."""

    def test_no_members(self):
        self.bad_members(None, True, 0, "con", (), ["con", 0, ()], ONE, ("give", 1), SLOTS[0],
                         ("call", SLOTS[0], SLOTS), ("seq", ONE, ONE),
                         ("note", 1, ONE), ("let", (("con", 0, ()),), ONE), ("prim", "+", *SLOTS), (("con",), 0, ()),
                         (["later"], (), ONE),
                         (0, (), ONE), ("", (), ONE), ("hole",), ("on", 1), (None, (), ONE))

    def test_laters(self):
        self.good_members(("later", (), ONE), ("later", (("slot", 2), ("slot", 0), ("slot", 2)), ("give", ("slot", 2))),
                          ("later", (("slot", 1),), ("seq", ("give", ("slot", 0)), ("give", ("slot", 1)))))
        self.bad_members(("later", (("slot", 3),), ONE), ("later", (("slot", -1),), ONE),
                         ("later", (("number", 1),), ONE),
                         ("later", (("global", 0),), ONE), ("later", (("slot", 0), ("global", 0)), ONE),
                         ("later", (), ("give", ("slot", 0))),
                         ("later", (("slot", 0),), ("give", ("slot", 1))), ("later", SLOTS, ("give", ("slot", 2))),
                         ("later", ()),
                         ("later", (), ONE, ONE), ("later", [("slot", 0)], ONE), ("later", ("slot", 0), ONE),
                         ("later", None, ONE),
                         ("later", (), None), ("later", ONE), ("later", (), SLOTS[0]), ("later", (["slot", 0],), ONE),
                         ("later", (0,), ONE),
                         ("later", (("slot", True),), ONE), ("later", (("slot",),), ONE),
                         ("later", (), ("later", (), ONE)), ("later", (), ("part", 1, ())))

    def test_cons(self):
        self.good_members(("con", 0, ()), ("con", 10 ** 20, (("slot", 2),)))
        self.bad_members(("con", -1, ()), ("con", True, ()), ("con", None, ()), ("con", 0), ("con", 0, (), 1),
                         ("con", 0, []),
                         ("con", 0, (("slot", 3),)), ("con", 0, None), ("con", 0, 1))

    def test_parts(self):
        self.good_members(("part", 0, ()), ("part", 2, (("slot", 2), ("number", 1))), ("part", 1, SLOTS * 3))
        self.bad_members(("part", 3, ()), ("part", -1, ()), ("part", True, ()), ("part", None, ()), ("part", "1", ()),
                         ("part", 1), ("part", 1, (), 1),
                         ("part", 1, []), ("part", 1, (("slot", 3),)), ("part", 1, None), ("part", ("global", 1), ()),
                         ("part", 1, SLOTS[0]))


class ProgramTest(CheckCase):
    def test_no_programs(self):
        for program in (None, True, 0, "", "program", (), (None, 0), (0, 0), ("", 0), ((), 0), (((0, ONE),),),
                        (((0, ONE),), 0, 0),
                        [((0, ONE),), 0], ([(0, ONE)], 0), (([0, ONE],), 0), (((0,),), 0), (((0, ONE, 1),), 0),
                        ((ONE,), 0), ((None,), 0),
                        ((0, ONE), 0), (((0, ONE), None), 0), ((((0, ONE),), 0),)):
            with self.subTest(program):
                self.refuses(program)

    def test_arities(self):
        for arity in (-1, True, False, None, "0", (), (0,), 1.0):
            self.refuses((((0, ONE), (arity, ONE)), 0))
            self.refuses((((arity, ONE), (0, ONE)), 1))
        for arity in (0, 1, 10 ** 9):
            self.assertIsNone(check_code((((0, ONE), (arity, ONE)), 0)))

    def test_main(self):
        functions = ((0, ONE), (1, ONE), (0, ONE))
        for main in (0, 2):
            self.assertIsNone(check_code((functions, main)))
        for main in (1, 3, -1, -3, None, True, False, "0", (), (0,)):
            self.refuses((functions, main))

    def test_every_function_is_examined(self):
        for place in range(3):
            functions = [(0, ONE)] * 3
            functions[place] = (0, ("give", ("slot", 0)))
            self.refuses((tuple(functions), 0))

    def test_compiled_programs(self):
        for seed in range(200):
            program = compile_program(*normal_form(lift(CoreMaker(seed).program())))
            before = repr(program)
            self.assertIsNone(check_code(program))
            self.assertEqual(repr(program), before)

    def test_by_chance(self):
        for seed in range(500):
            program = CodeMaker(seed).program()
            self.assertIsNone(check_code(program))
            chance = random.Random(seed)
            for _ in range(15):
                other = broken(program, chance)
                if slow_is_code(other):
                    self.assertIsNone(check_code(other))
                else:
                    self.refuses(other)


if __name__ == "__main__":
    unittest.main()

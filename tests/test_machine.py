"""The machine: points 9.4 to 9.11, 9.10 and 9.14, and its collections."""

import random
import unittest

from needonce.code import compile_program
from needonce.collect import collect_cells, roots
from needonce.heap import Heap, size_of
from needonce.lift import lift
from needonce.machine import Machine
from needonce.normal import normal_form
from needonce.simplify import simplify
from tests.code_making import CodeMaker
from tests.core_making import CoreMaker
from tests.slow_machine import STOPPED, begin, slow_collect, slow_step, used

NIL = ("con", 0, ())
ONE = ("give", ("number", 1))
BODY = ("give", ("slot", 0))
LIMIT = 10 ** 15
# main is the function 0; 1 has one param, 2 has two, 3 has three, and 4 has none.
FUNCTIONS = ((0, NIL), (1, ("note", 1, BODY)), (2, ("note", 2, BODY)), (3, ("note", 3, BODY)), (0, ONE))
PROGRAM = (FUNCTIONS, 0)


def slot(index):
    return ("slot", index)


def number(value):
    return ("number", value)


def state_of(machine):
    return {"cells": {address: machine.heap.cell(address) for address in machine.heap.addresses()},
            "stack": machine.stack, "now": machine.now, "events": machine.events, "entered": machine.entered,
            "collections": machine.collections, "used": machine.heap.used, "room": machine.heap.room}


class MachineCase(unittest.TestCase):
    def machine(self, now, *frames, cells=(), room=1000):
        """A machine with the global cells 0 to 4 and further cells from 5 on."""
        machine = Machine(PROGRAM, room)
        for cell in cells:
            machine.heap.make(cell)
        machine.stack.extend(frames)
        machine.now = now
        return machine

    def step(self, machine, now, *frames, cells=None, events=None, entered=None):
        """What a step leaves: what the machine does now, the frames above the first one, cells from 5 on, ..."""
        before = state_of(machine)
        whole = {key: list(value) if isinstance(value, list) else value for key, value in before.items()}
        self.assertIsNone(machine.step())
        self.assertEqual(machine.now, now)
        self.assertEqual(machine.stack, [("show",), *frames])
        found = [machine.heap.cell(address) for address in machine.heap.addresses()[5:]]
        self.assertEqual(found,
                         [cell for address, cell in whole["cells"].items() if address > 4] if cells is None else cells)
        self.assertEqual(machine.events, whole["events"] + (events or []))
        self.assertEqual(machine.entered, whole["entered"] + (entered or []))
        self.assertEqual(machine.collections, whole["collections"])
        self.assertEqual(machine.heap.used, sum(size_of(machine.heap.cell(each)) for each in machine.heap.addresses()))
        self.assertIs(machine.stopped, now[0] in STOPPED)

    def stops(self, machine, now):
        """A machine that has stopped does nothing."""
        before = repr(state_of(machine))
        self.assertEqual(machine.now, now)
        self.assertIs(machine.stopped, True)
        for _ in range(3):
            self.assertIsNone(machine.step())
            self.assertIsNone(machine.collect())
        self.assertEqual(repr(state_of(machine)), before)


class BeginningTest(MachineCase):
    def test_the_first_state(self):
        machine = Machine(PROGRAM, 100)
        self.assertIsInstance(machine.heap, Heap)
        self.assertEqual(state_of(machine), {
            "cells": {0: ("later", NIL, (), 0), 1: ("part", 1, ()), 2: ("part", 2, ()), 3: ("part", 3, ()),
                      4: ("later", ONE, (), 4)},
            "stack": [("show",)], "now": ("enter", 0), "events": [], "entered": [], "collections": 0, "used": 7,
            "room": 100})
        self.assertEqual([type(part) for part in (machine.stack, machine.events, machine.entered)], [list] * 3)
        self.assertIs(machine.stopped, False)

    def test_main_at_each_index(self):
        for main in range(3):
            functions = [(1, ONE)] * 3
            functions[main] = (0, ONE)
            machine = Machine((tuple(functions), main), 0)
            self.assertEqual(machine.now, ("enter", 2 * main))
            self.assertEqual([machine.heap.cell(address) for address in range(3)],
                             [("later", ONE, (), at) if at == main else ("part", at, ()) for at in range(3)])
            self.assertEqual((machine.heap.used, machine.heap.room), (4, 0))
            machine.step()
            self.assertEqual((machine.now, machine.entered), (("eval", ONE, ()), [main]))

    def test_global_cells_greater_than_the_room(self):
        machine = Machine((((0, ONE), (0, ONE), (2, ONE)), 1), 3)
        self.assertEqual((machine.heap.used, machine.heap.room, machine.stopped), (5, 3, False))

    def test_machines_are_apart(self):
        one, other = Machine(PROGRAM, 100), Machine(PROGRAM, 100)
        for _ in range(3):
            one.step()
        self.assertEqual((other.now, other.entered, other.stack), (("enter", 0), [], [("show",)]))

    def test_what_the_interface_lists(self):
        for name in ("step", "collect", "stopped"):
            self.assertIn(name, vars(Machine))
        self.assertIsInstance(vars(Machine)["stopped"], property)


class EnterTest(MachineCase):
    def test_odd_words(self):
        for word in (1, -1, 7, 2 * 10 ** 15 + 1, -2 * 10 ** 15 + 1):
            self.step(self.machine(("enter", word)), ("value", word))

    def test_cons_and_parts(self):
        for cell in (("con", 3, ()), ("con", 3, (1, 0)), ("part", 2, (5,)), ("part", 2, ())):
            self.step(self.machine(("enter", 10), ("update", 1), cells=[cell]), ("value", 10), ("update", 1))
        self.step(self.machine(("enter", 4)), ("value", 4))

    def test_ons(self):
        self.step(self.machine(("enter", 10), cells=[("on", 12), ("on", 5)]), ("enter", 12))
        self.step(self.machine(("enter", 12), cells=[("on", 12), ("on", 5)]), ("enter", 5))

    def test_holes(self):
        machine = self.machine(("enter", 10), ("update", 5), cells=[("hole",)])
        self.step(machine, ("loop",), ("update", 5))
        self.stops(machine, ("loop",))

    def test_laters(self):
        self.step(self.machine(("enter", 10), cells=[("later", BODY, (1, 2, 3), 77)]), ("eval", BODY, (1, 2, 3)),
                  ("update", 5),
                  cells=[("hole",)], entered=[77])
        self.step(self.machine(("enter", 10), ("head", 1), cells=[("later", ONE, (), 8)]), ("eval", ONE, ()),
                  ("head", 1), ("update", 5),
                  cells=[("hole",)], entered=[8])
        machine = self.machine(("enter", 8))
        self.step(machine, ("eval", ONE, ()), ("update", 4), entered=[4])
        self.assertEqual(machine.heap.cell(4), ("hole",))

    def test_used_changes_with_the_cell(self):
        machine = self.machine(("enter", 10), cells=[("later", BODY, (1, 1, 1, 1), 5)])
        self.assertEqual(machine.heap.used, 12)
        machine.step()
        self.assertEqual(machine.heap.used, 9)


class EvalTest(MachineCase):
    FRAME = (11, 14, 0)

    def evaluates(self, body, now, *frames, **more):
        self.step(self.machine(("eval", body, self.FRAME), ("head", 3)), now, ("head", 3), *frames, **more)

    def test_operands(self):
        for operand, word in ((slot(0), 11), (slot(1), 14), (slot(2), 0), (("global", 0), 0), (("global", 3), 6),
                              (number(0), 1),
                              (number(5), 11), (number(-1), -1), (number(-LIMIT), -2 * LIMIT + 1),
                              (number(LIMIT), 2 * LIMIT + 1)):
            self.evaluates(("give", operand), ("enter", word))
            self.evaluates(("call", operand, (number(4),)), ("enter", word), ("apply", (9,)))
            self.evaluates(("call", number(0), (operand, operand)), ("enter", 1), ("apply", (word, word)))
            self.evaluates(("con", 4, (operand,)), ("value", 10), cells=[("con", 4, (word,))])
            self.evaluates(("prim", "+", operand, number(0)), ("enter", word), ("right", "+", number(0), self.FRAME))

    def test_calls(self):
        self.evaluates(("call", slot(1), (number(1), slot(0), ("global", 2))), ("enter", 14), ("apply", (3, 11, 4)))

    def test_cons(self):
        self.evaluates(("con", 1000, ()), ("value", 10), cells=[("con", 1000, ())])
        self.evaluates(("con", 0, (slot(2), slot(1), number(3))), ("value", 10), cells=[("con", 0, (0, 14, 7))])

    def test_prims(self):
        for sign in ("+", "-", "*", "div", "mod", "==", "<", "<="):
            self.evaluates(("prim", sign, slot(0), slot(1)), ("enter", 11), ("right", sign, slot(1), self.FRAME))

    def test_lets(self):
        self.evaluates(("let", (("con", 7, (slot(0), slot(3))),), BODY), ("eval", BODY, (11, 14, 0, 10)),
                       cells=[("con", 7, (11, 10))])
        self.evaluates(("let", (("later", (slot(4), slot(1)), ONE), ("part", 3, (slot(3), number(2))), ("con", 0, ()),
                                ("later", (), BODY)), BODY), ("eval", BODY, (11, 14, 0, 10, 12, 14, 16)),
                       cells=[("later", ONE, (12, 14), 5), ("part", 3, (10, 5)), ("con", 0, ()),
                              ("later", BODY, (), 6)])

    def test_serials_go_on(self):
        machine = Machine((((0, ("let", (("later", (), ONE), ("con", 0, ()), ("later", (), ONE)),
                                  ("let", (("later", (), ONE),), NIL))), (1, ONE)), 0), 100)
        for _ in range(3):
            machine.step()
        self.assertEqual([machine.heap.cell(address) for address in (2, 3, 4, 5)],
                         [("later", ONE, (), 2), ("con", 0, ()), ("later", ONE, (), 3), ("later", ONE, (), 4)])

    def test_seqs_cases_and_picks(self):
        self.evaluates(("seq", ONE, BODY), ("eval", ONE, self.FRAME), ("seq", BODY, self.FRAME))
        alternatives = ((3, 1, ONE), (4, 0, BODY))
        for default in (None, BODY):
            self.evaluates(("case", ONE, alternatives, default), ("eval", ONE, self.FRAME),
                           ("case", alternatives, default, self.FRAME))
            self.evaluates(("pick", ONE, ((3, BODY),), default), ("eval", ONE, self.FRAME),
                           ("pick", ((3, BODY),), default, self.FRAME))
        self.evaluates(("case", BODY, (), None), ("eval", BODY, self.FRAME), ("case", (), None, self.FRAME))

    def test_notes(self):
        self.evaluates(("note", 7, ("note", 8, ONE)), ("eval", ("note", 8, ONE), self.FRAME), events=[("note", 7)])
        self.evaluates(("note", -10 ** 20, ONE), ("eval", ONE, self.FRAME), events=[("note", -10 ** 20)])

    def test_new_addresses(self):
        machine = self.machine(("eval", ("con", 0, ()), ()))
        machine.heap.renew({**{address: machine.heap.cell(address) for address in range(5)}, 9: ("hole",)}, 20)
        machine.step()
        self.assertEqual((machine.now, machine.heap.addresses()), (("value", 40), [0, 1, 2, 3, 4, 9, 20]))
        machine.now = ("eval", ("let", (("con", 0, (slot(1),)), ("con", 1, (slot(0),))), ONE), ())
        machine.step()
        self.assertEqual((machine.now, machine.heap.cell(21), machine.heap.cell(22)),
                         (("eval", ONE, (42, 44)), ("con", 0, (44,)), ("con", 1, (42,))))


class ValueCase(MachineCase):
    CELLS = [("con", 0, ()), ("con", 1, (13, 8)), ("part", 2, ()), ("part", 3, (7,)), ("con", 2, (1,)), ("con", 1, ()),
             ("con", 1, (3, 5, 7)), ("con", 0, (1,))]
    NIL, CONS, PART_2, PART_3, CON_2, ONE, CON_3, CON_0 = range(10, 26, 2)
    EVERY = (1, 7, -5, *range(10, 26, 2))

    def meets(self, frame, word, now, *frames, cells=(), **more):
        self.step(self.machine(("value", word), ("head", 3), frame, cells=self.CELLS), now, ("head", 3), *frames,
                  cells=[*self.CELLS, *cells], **more)

    def is_stuck(self, frame, *words):
        for word in words:
            machine = self.machine(("value", word), ("head", 3), frame, cells=self.CELLS)
            self.step(machine, ("stuck",), ("head", 3))
            self.stops(machine, ("stuck",))

    def faults(self, frame, word, text):
        machine = self.machine(("value", word), ("head", 3), frame, cells=self.CELLS)
        self.step(machine, ("fault", text), ("head", 3), events=[("fault", text)])
        self.stops(machine, ("fault", text))


class ValueTest(ValueCase):
    def test_show(self):
        self.meets(("show",), self.CONS, ("enter", 13), ("head", 8))
        self.meets(("show",), self.NIL, ("end",), events=[("end",)])
        self.is_stuck(("show",), 1, 7, self.PART_2, self.PART_3, self.CON_2, self.ONE, self.CON_3)
        machine = self.machine(("value", self.NIL), cells=self.CELLS)
        machine.step()
        self.stops(machine, ("end",))
        self.assertEqual(machine.stack, [])

    def test_head(self):
        for word, shown in ((1, 0), (13, 6), (-1, -1), (-5, -3)):
            self.meets(("head", 14), word, ("enter", 14), ("show",), events=[("show", shown)])
        self.is_stuck(("head", 14), *self.EVERY[3:])

    def test_update(self):
        for word in (7, self.NIL, self.PART_3):
            machine = self.machine(("value", word), ("head", 3), ("update", 13), cells=[*self.CELLS, ("hole",)])
            self.step(machine, ("value", word), ("head", 3), cells=[*self.CELLS, ("on", word)])

    def test_apply_with_fewer_words(self):
        self.meets(("apply", (9,)), self.PART_2, ("value", 26), cells=[("part", 2, (9,))])
        self.meets(("apply", (9,)), self.PART_3, ("value", 26), cells=[("part", 3, (7, 9))])

    def test_apply_with_just_as_many_words(self):
        self.meets(("apply", (9, 4)), self.PART_2, ("eval", FUNCTIONS[2][1], (9, 4)))
        self.meets(("apply", (9, 4)), self.PART_3, ("eval", FUNCTIONS[3][1], (7, 9, 4)))
        self.meets(("apply", (5,)), 2, ("eval", FUNCTIONS[1][1], (5,)))

    def test_apply_with_more_words(self):
        self.meets(("apply", (9, 4, 1, 2)), self.PART_2, ("eval", FUNCTIONS[2][1], (9, 4)), ("apply", (1, 2)))
        self.meets(("apply", (9, 4, 1)), self.PART_3, ("eval", FUNCTIONS[3][1], (7, 9, 4)), ("apply", (1,)))
        self.meets(("apply", (5, 6)), 2, ("eval", FUNCTIONS[1][1], (5,)), ("apply", (6,)))

    def test_apply_of_what_is_no_function(self):
        self.is_stuck(("apply", (1,)), 1, 7, self.NIL, self.CONS, self.CON_2)

    def test_case(self):
        alternatives = ((1, 0, ("con", 9, ())), (1, 2, ONE), (1, 2, BODY), (0, 0, BODY), (2, 1, ONE))
        for default in (None, NIL):
            frame = ("case", alternatives, default, (21, 23))
            self.meets(frame, self.CONS, ("eval", ONE, (21, 23, 13, 8)))
            self.meets(frame, self.ONE, ("eval", ("con", 9, ()), (21, 23)))
            self.meets(frame, self.NIL, ("eval", BODY, (21, 23)))
            self.meets(frame, self.CON_2, ("eval", ONE, (21, 23, 1)))
            self.is_stuck(frame, 1, 7, self.PART_2, self.PART_3)
        for word in (self.CON_3, self.CON_0):
            self.meets(("case", alternatives, NIL, (21, 23)), word, ("eval", NIL, (21, 23, word)))
            self.faults(("case", alternatives, None, (21, 23)), word, "no match")
        self.meets(("case", (), NIL, ()), self.NIL, ("eval", NIL, (self.NIL,)))
        self.faults(("case", (), None, ()), self.NIL, "no match")

    def test_pick(self):
        alternatives = ((5, ONE), (-3, BODY), (5, NIL), (0, NIL))
        for default in (None, ("con", 9, ())):
            frame = ("pick", alternatives, default, (21, 23))
            self.meets(frame, 11, ("eval", ONE, (21, 23)))
            self.meets(frame, -5, ("eval", BODY, (21, 23)))
            self.meets(frame, 1, ("eval", NIL, (21, 23)))
            self.is_stuck(frame, *self.EVERY[3:])
        self.meets(("pick", alternatives, BODY, (21,)), 7, ("eval", BODY, (21, 7)))
        self.faults(("pick", alternatives, None, (21,)), 7, "no match")
        self.faults(("pick", (), None, ()), 11, "no match")

    def test_seq(self):
        for word in self.EVERY:
            self.meets(("seq", BODY, (21, 23)), word, ("eval", BODY, (21, 23, word)))

    def test_right(self):
        for word, value in ((1, 0), (7, 3), (-5, -3)):
            self.meets(("right", "-", slot(1), (21, 12)), word, ("enter", 12), ("prim", "-", value))
            self.meets(("right", "==", number(4), ()), word, ("enter", 9), ("prim", "==", value))
            self.meets(("right", "mod", ("global", 3), ()), word, ("enter", 6), ("prim", "mod", value))
        self.is_stuck(("right", "-", slot(1), (21, 12)), *self.EVERY[3:])


class PrimTest(ValueCase):
    def test_numbers(self):
        for sign, one, other, result in (
                ("+", 3, 4, 7), ("+", -3, 1, -2), ("-", 3, 4, -1), ("-", 4, -3, 7), ("*", 3, -4, -12), ("*", 0, 5, 0),
                ("div", 7, 2, 3), ("div", -7, 2, -4), ("div", 7, -2, -4), ("div", -7, -2, 3), ("div", 6, -2, -3),
                ("div", 0, 5, 0),
                ("mod", 7, 2, 1), ("mod", -7, 2, 1), ("mod", 7, -2, -1), ("mod", -7, -2, -1), ("mod", 6, -2, 0),
                ("mod", 1, 5, 1),
                ("+", LIMIT - 1, 1, LIMIT), ("-", 1 - LIMIT, 1, -LIMIT), ("*", LIMIT // 2, -2, -LIMIT),
                ("*", LIMIT // 2, 2, LIMIT),
                ("div", LIMIT, 1, LIMIT), ("div", LIMIT, -1, -LIMIT), ("mod", 5, LIMIT, 5)):
            self.meets(("prim", sign, one), 2 * other + 1, ("value", 2 * result + 1))

    def test_comparisons(self):
        for sign, one, other, holds in (("==", 3, 3, 1), ("==", 3, 4, 0), ("<", 3, 4, 1), ("<", 3, 3, 0),
                                        ("<", 4, 3, 0), ("<=", 3, 4, 1),
                                        ("<=", 3, 3, 1), ("<=", 4, 3, 0), ("==", -1, 1, 0), ("<", -4, -3, 1)):
            self.meets(("prim", sign, one), 2 * other + 1, ("value", 26), cells=[("con", holds, ())])

    def test_division_by_zero(self):
        for one in (5, 0, -5):
            self.faults(("prim", "div", one), 1, "division by zero")
            self.faults(("prim", "mod", one), 1, "division by zero")

    def test_overflow(self):
        for sign, one, other in (("+", LIMIT, 1), ("-", -LIMIT, 1), ("-", LIMIT, -1), ("+", -LIMIT, -1),
                                 ("*", LIMIT, 2),
                                 ("*", LIMIT // 2 + 1, 2), ("*", -LIMIT // 2 - 1, 2), ("*", LIMIT, LIMIT)):
            self.faults(("prim", sign, one), 2 * other + 1, "overflow")

    def test_what_is_no_number(self):
        for sign in ("+", "-", "*", "div", "mod", "==", "<", "<="):
            self.is_stuck(("prim", sign, 0), *self.EVERY[3:])


class RoomTest(MachineCase):
    """The global cells have the size 7."""

    def test_just_enough_room(self):
        let = ("let", (("con", 0, (number(1),)), ("part", 2, ()), ("later", (), ONE),
                       ("later", (slot(0), slot(1)), ONE)), ONE)
        for now, frames, cells, need in (
                (("eval", ("con", 4, ()), ()), (), (), 1), (("eval", ("con", 4, (number(1), number(2))), ()), (), (),
                                                            3),
                (("eval", let, ()), (), (), 2 + 1 + 2 + 3), (("value", 6), (("apply", (1,)),), (), 2),
                (("value", 10), (("apply", (1,)),), [("part", 3, (1,))], 3),
                (("value", 1), (("prim", "==", 3),), (), 1)):
            before = 7 + sum(map(size_of, cells))
            with self.subTest(now):
                machine = self.machine(now, *frames, cells=cells, room=before + need)
                machine.step()
                self.assertEqual((machine.collections, machine.stopped, machine.heap.used), (0, False, before + need))
                machine = self.machine(now, *frames, cells=cells, room=before + need - 1)
                machine.step()
                self.assertEqual((machine.now, machine.heap.used), (("full",), before))
                self.assertEqual(machine.stack, [("show",), *frames])
                self.assertEqual(machine.collections, 1)
                self.stops(machine, ("full",))

    def test_room_after_a_collection(self):
        """Cells that are not live make room; the words of the step are new then."""
        cells = [("con", 9, (1, 1)), ("con", 8, (1,)), ("con", 7, ())]
        machine = self.machine(("eval", ("con", 4, (slot(0), slot(1))), (14, 12)), ("head", 12), cells=cells, room=13)
        self.step_collects(machine, ("value", 14), [("show",), ("head", 10)],
                           {5: ("con", 8, (1,)), 6: ("con", 7, ()), 7: ("con", 4, (12, 10))}, 13)

    def step_collects(self, machine, now, stack, cells, many_used):
        machine.step()
        self.assertEqual((machine.now, machine.stack, machine.collections), (now, stack, 1))
        found = {address: machine.heap.cell(address) for address in machine.heap.addresses()[5:]}
        self.assertEqual((found, machine.heap.used), (cells, many_used))

    def test_a_let_after_a_collection(self):
        cells = [("con", 9, (1, 1)), ("con", 8, (1,))]
        machine = self.machine(("eval", ("let", (("later", (slot(0), slot(1)), ONE),), ONE), (12,)), cells=cells,
                               room=12)
        self.step_collects(machine, ("eval", ONE, (10, 12)), [("show",)],
                           {5: ("con", 8, (1,)), 6: ("later", ONE, (10, 12), 5)}, 12)

    def test_an_apply_after_a_collection(self):
        cells = [("con", 9, (1, 1)), ("part", 3, (1,)), ("con", 8, ())]
        machine = self.machine(("value", 12), ("apply", (14,)), cells=cells, room=13)
        self.step_collects(machine, ("value", 14), [("show",)],
                           {5: ("con", 8, ()), 6: ("part", 3, (1,)), 7: ("part", 3, (1, 10))}, 13)

    def test_full_after_a_collection(self):
        """Heap and stack are as the collection left them, and no frame is popped."""
        cells = [("con", 9, (1, 1)), ("part", 3, (1,)), ("con", 8, ())]
        machine = self.machine(("value", 12), ("apply", (14,)), cells=cells, room=12)
        self.step_collects(machine, ("full",), [("show",), ("apply", (10,))],
                           {5: ("con", 8, ()), 6: ("part", 3, (1,))}, 10)
        self.stops(machine, ("full",))
        machine = self.machine(("eval", ("con", 4, (slot(0), slot(1))), (14, 12)), ("head", 12),
                               cells=[("con", 9, (1, 1)), ("con", 8, (1,)), ("con", 7, ())], room=12)
        self.step_collects(machine, ("full",), [("show",), ("head", 10)], {5: ("con", 8, (1,)), 6: ("con", 7, ())}, 10)

    def test_serials_and_events_when_full(self):
        machine = self.machine(("eval", ("let", (("later", (), ONE),), ONE), ()), room=8)
        machine.step()
        self.assertEqual((machine.now, machine.events, machine.entered, machine.heap.used), (("full",), [], [], 7))

    def test_no_collection_where_there_is_room(self):
        cells = [("con", 9, (1, 1))]
        machine = self.machine(("eval", ("con", 4, ()), ()), cells=cells, room=11)
        machine.step()
        self.assertEqual((machine.now, machine.collections, machine.heap.addresses()),
                         (("value", 12), 0, [0, 1, 2, 3, 4, 5, 6]))

    def test_steps_that_need_nothing(self):
        """They are done in any case, also where the global cells do not fit."""
        for room in (0, 6):
            for now, frames in ((("enter", 8), ()), (("enter", 2), ()), (("eval", ONE, ()), ()),
                                (("value", 3), (("head", 1),)),
                                (("eval", ("call", number(1), (number(1),)), ()), ()),
                                (("eval", ("seq", ONE, ONE), ()), ()),
                                (("eval", ("case", ONE, (), None), ()), ()),
                                (("eval", ("pick", ONE, (), None), ()), ()),
                                (("eval", ("note", 1, ONE), ()), ()), (("eval", ("prim", "==", number(1), number(1)),
                                                                        ()), ()),
                                (("value", 4), (("apply", (1, 3)),)), (("value", 4), (("apply", (1, 3, 5)),)),
                                (("value", 3), (("prim", "+", 1),)), (("value", 3), (("seq", ONE, ()),)),
                                (("value", 3), (("right", "==", number(1), ()),)),
                                (("value", 3), (("pick", (), ONE, ()),))):
                machine = self.machine(now, *frames, room=room)
                machine.step()
                self.assertEqual((machine.collections, machine.stopped), (0, False), now)

    def test_stuck_needs_nothing(self):
        for now, frame in ((("value", 3), ("apply", (1,))), (("value", 6), ("prim", "==", 1)),
                           (("value", 10), ("prim", "<", 1))):
            machine = self.machine(now, frame, cells=[("con", 0, ())], room=0)
            machine.step()
            self.assertEqual((machine.now, machine.collections), (("stuck",), 0))

    def test_global_cells_greater_than_the_room(self):
        machine = Machine((((0, ("note", 3, ("con", 0, ()))), (0, ONE), (2, ONE)), 0), 3)
        for _ in range(4):
            machine.step()
        self.assertEqual((machine.now, machine.events, machine.collections, machine.heap.used),
                         (("full",), [("note", 3)], 1, 5))

    def test_exactly_when_live_and_need_do_not_fit(self):
        for seed in range(60):
            program = compile_program(*normal_form(lift(simplify(CoreMaker(seed).program(3)))))
            for room in (6, 9, 12, 16, 25, 40):
                self.check_full(program, room)

    def check_full(self, program, room):
        """9.14: the machine is full where a collection and the step do not fit, and not before."""
        machine = Machine(program, room)
        for _ in range(120):
            now, stack = machine.now, list(machine.stack)
            cells = {address: machine.heap.cell(address) for address in machine.heap.addresses()}
            live = sum(map(size_of, collect_cells(cells, len(program[0]), stack, now)[0].values()))
            free = Machine(program, 10 ** 9)
            free.heap.renew(cells, machine.heap.addresses()[-1] + 1)
            free.stack, free.now = list(stack), now
            before = free.heap.used
            free.step()
            shrinks = now[0] == "enter" or (now[0] == "value" and stack[-1][0] == "update")
            need = 0 if shrinks else free.heap.used - before
            machine.step()
            self.assertEqual(machine.now == ("full",), need > 0 and live + need > room, (room, now, need))
            if machine.stopped:
                return


class CollectTest(MachineCase):
    def test_a_collection(self):
        cells = [("con", 9, (1, 1)), ("on", 14), ("con", 8, (16,)), ("later", ONE, (12, 3), 30)]
        machine = self.machine(("enter", 12), ("update", 4), ("head", 12), cells=cells)
        machine.heap.put(4, ("hole",))
        machine.events.append(("note", 3))
        machine.entered.append(4)
        self.assertIsNone(machine.collect())
        self.assertEqual(state_of(machine), {
            "cells": {0: ("later", NIL, (), 0), 1: ("part", 1, ()), 2: ("part", 2, ()), 3: ("part", 3, ()),
                      4: ("hole",),
                      5: ("con", 8, (12,)), 6: ("later", ONE, (10, 3), 30)},
            "stack": [("show",), ("update", 4), ("head", 10)], "now": ("enter", 10), "events": [("note", 3)],
            "entered": [4],
            "collections": 1, "used": 12, "room": 1000})
        machine.collect()
        self.assertEqual((machine.collections, machine.heap.used), (2, 12))

    def test_new_addresses_after_it(self):
        machine = self.machine(("eval", ("con", 0, ()), ()), cells=[("con", 9, ())] * 5)
        machine.collect()
        machine.step()
        self.assertEqual((machine.now, machine.heap.addresses()), (("value", 10), [0, 1, 2, 3, 4, 5]))

    def test_serials_go_on(self):
        let = ("eval", ("let", (("later", (), ONE),), ONE), ())
        machine = self.machine(let)
        machine.step()
        machine.now = let
        machine.collect()
        machine.step()
        self.assertEqual(machine.heap.cell(5), ("later", ONE, (), 6))

    def test_not_after_a_stop(self):
        for now in (("end",), ("fault", "overflow"), ("loop",), ("full",), ("stuck",)):
            machine = self.machine(now, cells=[("con", 9, ())])
            self.stops(machine, now)
            self.assertEqual((machine.collections, machine.heap.addresses()), (0, [0, 1, 2, 3, 4, 5]))

    def test_the_roots(self):
        machine = self.machine(("value", 12), ("apply", (10, 3)), cells=[("con", 9, ()), ("part", 2, ())])
        self.assertEqual(roots(5, machine.stack, machine.now), [0, 2, 4, 6, 8, 10, 3, 12])


class ChanceTest(unittest.TestCase):
    """Step by step, the machine and another one are in the same state."""

    def compare(self, program, room, schedule, steps):
        machine, state = Machine(program, room), begin(program, room)
        before = repr(program)
        for number in range(steps):
            if number in schedule:
                machine.collect()
                state = slow_collect(state)
            machine.step()
            state = slow_step(state)
            found = state_of(machine)
            for key, value in found.items():
                self.assertEqual(value, used(state) if key == "used" else state[key], (number, key))
            self.assertIs(machine.stopped, machine.now[0] in STOPPED)
            if machine.stopped and number % 7 == 0:
                break
        self.assertEqual(repr(program), before)
        return machine.now[0]

    def test_code_of_every_kind(self):
        ends = {}
        for seed in range(500):
            chance = random.Random(seed)
            program = CodeMaker(seed).program(chance.choice((2, 3, 4, 5)))
            room = chance.choice((5, 10, 20, 40, 100, 1000))
            end = self.compare(program, room, [chance.randrange(60) for _ in range(chance.choice((0, 3, 10)))], 60)
            ends[end] = ends.get(end, 0) + 1
        self.assertLessEqual(set(STOPPED), set(ends))

    def test_programs(self):
        ends = {}
        for seed in range(120):
            chance = random.Random(seed)
            program = compile_program(*normal_form(lift(CoreMaker(seed).program())))
            room = chance.choice((15, 20, 30, 50, 80, 1000))
            end = self.compare(program, room, [chance.randrange(150) for _ in range(chance.choice((0, 5, 20)))], 150)
            ends[end] = ends.get(end, 0) + 1
        self.assertNotIn("stuck", ends)
        self.assertLessEqual({"end", "fault", "loop", "full"}, set(ends))


if __name__ == "__main__":
    unittest.main()

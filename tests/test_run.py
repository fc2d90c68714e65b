"""Running: part 10, and point 0.3, which holds of the whole."""

import random
import unittest

from needonce.apply_table import apply_table
from needonce.check import check_code
from needonce.checker import check
from needonce.code import compile_program
from needonce.errors import (Ambiguous, BadCharacter, BadNumber, DoubleName, IllTyped, MissingName, NoInstance,
                             Unexpected,
                             UnknownName, WrongCount)
from needonce.image import read_image, write_image
from needonce.lift import lift
from needonce.machine import Machine
from needonce.meaning import shown
from needonce.normal import normal_form
from needonce.printing import print_program
from needonce.run import compile_text, pages, run_code, run_text
from needonce.simplify import rename_apart, simplify
from needonce.strict import make_table
from tests.code_making import CodeMaker
from tests.core_making import CoreMaker
from tests.program_making import ProgramMaker
from tests.slow_machine import slow_run
from tests.texts import LOOPS, SHORT

ROOM = 10 ** 9
NIL = ("con", 0, ())
# It shows 1, 2, 3 and ends.
LIST = "main = [1, 2, 3]"


def code_of(whole):
    """The code of an apart core program: of itself, of the simpler one, and of that made strict."""
    simple = simplify(whole)
    for each in (whole, simple, apply_table(simple, make_table(simple))):
        yield compile_program(*normal_form(lift(each)))


class RunCodeTest(unittest.TestCase):
    def test_no_steps(self):
        code = compile_text(LIST)
        self.assertEqual(run_code(code, ROOM, [], 0), ((), ("more",), 0, 0))
        self.assertEqual(run_code(code, ROOM, [0, 0, 1], 0), ((), ("more",), 0, 0))

    def test_some_steps(self):
        code = compile_text(LIST)
        machine = Machine(code, ROOM)
        for steps in range(1, 60):
            machine.step()
            state = machine.now if machine.stopped else ("more",)
            report = run_code(code, ROOM, [], steps)
            self.assertEqual(report, (tuple(machine.events), state, len(machine.entered), 0))
            self.assertEqual([type(part) for part in report], [tuple, tuple, int, int])
        self.assertEqual(report, ((("show", 1), ("show", 2), ("show", 3), ("end",)), ("end",), 1, 0))

    def test_just_enough_steps(self):
        code = (((0, NIL),), 0)
        # Entering, evaluating, an update, and the end.
        for steps in range(4):
            self.assertEqual(run_code(code, ROOM, [], steps), ((), ("more",), min(1, steps), 0))
        for steps in (4, 5, 100):
            self.assertEqual(run_code(code, ROOM, [], steps), ((("end",),), ("end",), 1, 0))

    def test_schedules(self):
        code = (((0, NIL),), 0)
        for schedule, steps, many in (([], 4, 0), ([0], 4, 1), ([0], 1, 1), ([1], 1, 0), ([3], 4, 1), ([3], 3, 0),
                                      ([4], 4, 0),
                                      ([4], 10, 0), ([4, 5, 6, 7, 8], 10, 0), ([0, 0, 0], 4, 1), ([2, 0, 2, 0], 4, 2),
                                      ([3, 2, 1, 0], 4, 4), ([-1, -5], 4, 0), ([10 ** 30, -10 ** 30, 2], 4, 1),
                                      ([3, 3, -1, 99, 1, 4], 100, 2), (list(range(100)), 100, 4)):
            before = list(schedule)
            report = run_code(code, ROOM, schedule, steps)
            self.assertEqual(report[3], many, (schedule, steps))
            self.assertEqual(report[0], (("end",),) if steps > 3 else ())
            self.assertEqual(schedule, before)

    def test_each_kind_of_state(self):
        for body, state, events, entered in (
                (NIL, ("end",), (("end",),), 1), (("con", 2, ()), ("stuck",), (), 1),
                (("give", ("global", 0)), ("loop",), (), 1),
                (("note", 4, ("pick", ("give", ("number", 1)), (), None)), ("fault", "no match"),
                 (("note", 4), ("fault", "no match")), 1),
                (("con", 1, (("number", 5), ("number", 6))), ("stuck",), (("show", 5),), 1)):
            self.assertEqual(run_code((((0, body),), 0), ROOM, [], 50), (events, state, entered, 0))
        self.assertEqual(run_code((((0, NIL),), 0), 2, [], 50), ((), ("full",), 1, 1))
        self.assertEqual(run_code((((0, NIL),), 0), 2, [0, 1, 2, 3], 50), ((), ("full",), 1, 3))
        self.assertEqual(run_code((((0, NIL),), 0), 3, [], 50), ((("end",),), ("end",), 1, 0))

    def test_by_chance(self):
        for seed in range(300):
            chance = random.Random(seed)
            code = CodeMaker(seed).program(chance.choice((2, 3, 4, 5)))
            schedule = [chance.randrange(-5, 60) for _ in range(chance.choice((0, 3, 10, 60)))]
            arguments = (code, chance.choice((5, 10, 20, 40, 100, 1000)), schedule, chance.randrange(60))
            before = repr(arguments)
            self.assertEqual(run_code(*arguments), slow_run(*arguments))
            self.assertEqual(repr(arguments), before)


class PagesTest(unittest.TestCase):
    def test_pages(self):
        for events, expected in (
                ([], []), ([("note", 1)], []), ([("show", 5)], [(5, ())]), ([("show", 5), ("note", 3)], [(5, ())]),
                ([("show", 5), ("show", 5)], [(5, ()), (5, ())]), ([("end",)], [("end", ())]),
                ([("fault", "overflow")], [("overflow", ())]), ([("note", 1), ("end",)], [("end", (1,))]),
                ([("note", 1), ("fault", "no match")], [("no match", (1,))]),
                ([("note", 9), ("note", 2), ("show", -4), ("note", 9), ("note", 5), ("show", 0), ("end",)],
                 [(-4, (2, 9)), (0, (2, 5, 9)), ("end", (2, 5, 9))]),
                ([("note", 10), ("note", 9), ("note", 10), ("show", 1), ("note", 9), ("show", 2), ("note", 8),
                  ("fault", "division by zero")], [(1, (9, 10)), (2, (9, 10)), ("division by zero", (8, 9, 10))])):
            before = list(events)
            self.assertEqual(pages(events), expected)
            self.assertEqual(pages(tuple(events)), expected)
            self.assertEqual(events, before)
            self.assertIs(type(pages(events)), list)

    def test_what_was_returned_may_be_changed(self):
        events = [("show", 1), ("end",)]
        pages(events).clear()
        self.assertEqual(pages(events), [(1, ()), ("end", ())])


class TextTest(unittest.TestCase):
    def test_compile_text(self):
        for text, _ in SHORT:
            whole = simplify(check(text))
            code = compile_text(text)
            self.assertIsNone(check_code(code))
            self.assertEqual(code, compile_program(*normal_form(lift(apply_table(whole, make_table(whole))))))
            self.assertEqual(read_image(write_image(code)), code)

    def test_run_text_is_run_code(self):
        for text, _ in (*SHORT[:12], *LOOPS):
            for room, schedule, steps in ((ROOM, [], 300), (60, [3, 9, 27, 81], 200), (25, list(range(50)), 100),
                                          (0, [], 50)):
                self.assertEqual(run_text(text, room, schedule, steps), run_code(compile_text(text), room, schedule,
                                                                                 steps))

    def test_the_prelude(self):
        self.assertEqual(pages(run_text("main = take 2 (upto 4 9)", ROOM, [], 5000)[0]),
                         [(4, ()), (5, ()), ("end", ())])
        text = "take n = [n, n]\nmain = take 3"
        self.assertEqual(pages(run_text(text, ROOM, [], 500, prelude=False)[0]), [(3, ()), (3, ()), ("end", ())])
        self.assertEqual(run_text(text, ROOM, [], 500, prelude=False), run_code(compile_text(text, prelude=False),
                                                                                ROOM, [], 500))
        for run in (lambda **more: run_text(text, ROOM, [], 500, **more), lambda **more: compile_text(text, **more)):
            with self.assertRaises(DoubleName):
                run()
            with self.assertRaises(DoubleName):
                run(prelude=True)
        for run in (run_text, lambda text, *_, **more: compile_text(text, **more)):
            with self.assertRaises(UnknownName):
                run("main = take 2 (upto 4 9)", ROOM, [], 500, prelude=False)

    def test_errors(self):
        for text, error in (("main = ?", BadCharacter), ("main = 01", BadNumber), ("main = (", Unexpected),
                            ("main = x", UnknownName),
                            ("f = 1", MissingName), ("main = []\nmain = []", DoubleName),
                            ("main = case [] of { Cons x -> [x] }", WrongCount),
                            ("main = 1", IllTyped), ("main = \\x -> x", IllTyped),
                            ("main :: List Bool\nmain = []", IllTyped),
                            ("class C a where { c :: a -> Int }\nmain = [c 1]", NoInstance),
                            ("class C a where { c :: Int -> a ; d :: a -> Int }\nmain = [d (c 1)]", Ambiguous)):
            for run in (lambda: run_text(text, ROOM, [], 10), lambda: compile_text(text),
                        lambda: run_text(text, 0, [], 0)):
                with self.subTest(text):
                    with self.assertRaises(error):
                        run()


class Promise(unittest.TestCase):
    """What points 0.3 and 10.4 promise of a core program and its code."""

    def holds(self, whole, code, fuels, rooms=3, seed=0):
        known = []
        longest = run_code(code, ROOM, [], 0)
        for fuel in fuels:
            events, state, steps = shown(whole, fuel)
            self.assertNotEqual(state, ("stuck",))
            expected = pages(events)
            report = run_code(code, ROOM, [], 40 * (steps + len(expected)) + 400)
            self.assertEqual(pages(report[0])[:len(expected)], expected)
            self.assertEqual(expected[:len(known)], known)
            self.assertNotEqual(report[1], ("stuck",))
            known, longest = expected, report
            if state[0] in ("end", "fault"):
                self.assertEqual(pages(report[0]), expected)
                self.assertEqual(report[1], state)
        self.other_rooms(code, longest, random.Random(seed), rooms)
        return longest

    def other_rooms(self, code, longest, chance, many):
        """With other rooms and schedules the events are the same; only a full room ends them earlier."""
        events = longest[0]
        for _ in range(many):
            room = chance.choice((12, 20, 30, 45, 70, 120, 300, ROOM))
            schedule = [chance.randrange(-3, 400) for _ in range(chance.choice((0, 3, 20, 300)))]
            steps = chance.choice((150, 700, 2000))
            report = run_code(code, room, schedule, steps)
            both = min(len(events), len(report[0]))
            self.assertEqual(report[0][:both], events[:both])
            self.assertNotEqual(report[1], ("stuck",))
            if report[1][0] in ("end", "fault", "loop"):
                # Collections spare the steps that go through cells that are worked out, so it may take more without.
                self.assertEqual(run_code(code, ROOM, [], 2 * steps)[:3], report[:3])
            else:
                self.assertIn(report[1], (("more",), ("full",)))

    def entered_once(self, code, room, schedule, steps):
        machine = Machine(code, room)
        for number in range(steps):
            if number in schedule:
                machine.collect()
            machine.step()
        self.assertEqual(len(set(machine.entered)), len(machine.entered))
        return machine


class WholeTest(Promise):
    def test_texts(self):
        for number, (text, expected) in enumerate(SHORT):
            with self.subTest(text):
                whole, code = check(text), compile_text(text)
                report = self.holds(whole, code, (0, 1, 5, 20, 60, 200, 600, 2000, 9000), seed=number)
                self.assertEqual(pages(report[0])[:len(expected)], expected)
                self.assertEqual(pages(run_text(text, ROOM, [], 6000)[0])[:len(expected)], expected)
                self.entered_once(code, 60, range(0, 900, 7), 900)

    def test_texts_that_need_themselves(self):
        for number, (text, expected) in enumerate(LOOPS):
            with self.subTest(text):
                whole, code = check(text), compile_text(text)
                report = self.holds(whole, code, (0, 10, 100, 2000), seed=number)
                self.assertEqual((pages(report[0]), report[1]), (expected, ("loop",)))
                self.assertEqual(shown(whole, 5000)[1], ("more",))
                self.entered_once(code, 60, range(0, 900, 7), 900)

    def test_core_programs_by_chance(self):
        ends = {}
        for seed in range(260):
            whole = CoreMaker(seed, apart=seed % 2 == 0).program(4 if seed % 3 else 5)
            whole = rename_apart(whole)
            for code in code_of(whole):
                report = self.holds(whole, code, (30, 700), rooms=1, seed=seed)
                ends[report[1][0]] = ends.get(report[1][0], 0) + 1
                self.entered_once(code, 100, range(0, 150, 5), 150)
        self.assertLessEqual({"end", "fault", "loop", "more"}, set(ends))

    def test_texts_by_chance(self):
        found = 0
        for seed in range(120):
            text = print_program(ProgramMaker(seed).program())
            try:
                whole = check(text, prelude=False)
            except (IllTyped, NoInstance, Ambiguous):
                continue
            found += 1
            self.holds(whole, compile_text(text, prelude=False), (100, 1500), seed=seed)
        self.assertGreater(found, 20)

    def test_full_rooms(self):
        """With more room the machine comes at least as far; in the end it is not full any more."""
        code = compile_text("main = map (\\x -> x * x) (filter (\\n -> n mod 2 == 0) (upto 1 9))")
        longest = run_code(code, ROOM, [], 5000)
        self.assertEqual(pages(longest[0]), [(4, ()), (16, ()), (36, ()), (64, ()), ("end", ())])
        before, states = 0, set()
        for room in range(0, 120):
            events, state, _, _ = run_code(code, room, [], 5000)
            self.assertEqual(events, longest[0][:len(events)])
            self.assertLessEqual(before, len(events))
            self.assertIn(state, (("end",), ("full",)))
            self.assertEqual(state == ("end",), events == longest[0])
            before = len(events)
            states.add(state)
        self.assertEqual(len(states), 2)

    def test_a_small_room(self):
        """What is live stays small, however much is worked out."""
        report = run_text("main = let xs = 1 : 2 : xs in xs", 20, [], 6000)
        self.assertEqual(report[1], ("more",))
        self.assertGreater(len(report[0]), 500)
        report = run_text("down n = if n == 0 then [5] else down (n - 1)\nmain = down 500", 20, [], 30000)
        self.assertEqual(report[:2], ((("show", 5), ("end",)), ("end",)))
        self.assertGreater(report[3], 20)


class OnceTest(Promise):
    """A note tells how often what it stands in is worked out."""

    def once(self, text, notes):
        for code in (compile_text(text), *code_of(rename_apart(check(text)))):
            for room, schedule in ((ROOM, []), (ROOM, list(range(0, 3000, 3))), (300, [])):
                events, state, _, _ = run_code(code, room, schedule, 6000)
                self.assertEqual(state, ("end",), text)
                self.assertEqual(sorted(event[1] for event in events if event[0] == "note"), notes, text)
            self.entered_once(code, ROOM, range(0, 3000, 9), 3000)

    def test_lets(self):
        self.once("main = let x = note 1 2 in [x, x + x, x]", [1])
        self.once("main = let { x = note 1 2 ; y = note 2 (x + x) } in [y, x, y]", [1, 2])
        self.once("main = let f = note 1 (\\x -> x) in [f 1, f 2, f 3]", [1])
        self.once("main = let f = (let k = note 1 5 in \\x -> x + k) in [f 1, f 2]", [1])
        self.once("main = let x = note 1 2 in let y = x in [y, x, y]", [1])
        self.once("main = let x = note 1 2 in case 0 of { 0 -> [x, x] ; n -> [n] }", [1])
        self.once("main = let x = note 1 2 in 5 : (let y = note 2 x in [x, y, x, y])", [1, 2])

    def test_lists(self):
        self.once("main = let xs = [note 1 1, note 2 2] in append xs (append xs xs)", [1, 2])
        self.once("main = let xs = map (\\x -> note 3 x) [1, 2] in append xs xs", [3, 3])
        self.once("main = let xs = note 1 (upto 1 3) in [sum xs, length xs, sum xs]", [1])
        self.once("xs = note 4 (map (\\x -> x) (upto 1 3))\nmain = append xs xs", [4])

    def test_arguments(self):
        self.once("f x = [x, x, x]\nmain = f (note 1 2)", [1])
        self.once("f x y = if y < 1 then [x, x] else f x (y - 1)\nmain = f (note 1 2) 5", [1])
        self.once("f g = append (g 1) (g 2)\nmain = f (note 1 (\\x -> [x]))", [1])
        self.once("f x = \\y -> x + y\nmain = map (f (note 1 2)) [1, 2, 3]", [1])
        self.once("three a b c = a + b + c\nmain = map (three (note 1 2) (note 2 3)) [1, 2, 3]", [1, 2])
        self.once("main = (\\x -> [x, x]) (note 1 2)", [1])
        self.once("main = (\\f -> [f 1, f 2]) ((\\k x -> k + x) (note 1 2))", [1])

    def test_lambdas(self):
        self.once("main = let k = note 1 2 in map (\\x -> x + k) [1, 2, 3]", [1])
        self.once("main = map (\\x -> note 7 x) [1, 2, 3]", [7, 7, 7])
        self.once("main = map (\\x -> let y = note 7 (x + 1) in y + y) [1, 2]", [7, 7])
        self.once("main = map (let k = note 1 2 in \\x -> x + k) [1, 2, 3]", [1])
        self.once("make n = let k = note 1 n in \\x -> x + k\nmain = let f = make 3 in [f 1, f 2]", [1])

    def test_cases_and_constructors(self):
        self.once("main = case Pair (note 1 2) (note 2 3) of { Pair a b -> [a, b, a, b] }", [1, 2])
        self.once("pair x = Pair x x\nmain = case pair (note 1 2) of { Pair a b -> [a, b, a] }", [1])
        self.once("main = case note 1 2 of { 0 -> [] ; n -> [n, n] }", [1])
        self.once("data S = S Int S\nfirst s = case s of { S n rest -> n }\nmore s = case s of { S n rest -> rest }\n"
                  "main = let s = S (note 1 2) s in [first s, first (more s), first (more (more s))]", [1])

    def test_globals(self):
        self.once("k = note 1 2\nf x = x + k\nmain = [f 1, f 2, k]", [1])
        self.once("class C a where { c :: a }\ninstance C Int where { c = note 1 2 }\nmain = let x = c in [x + 1, x + 2]", [1])


if __name__ == "__main__":
    unittest.main()

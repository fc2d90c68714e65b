"""Images: points 8.7 and 8.8."""

import random
import unittest

from needonce.code import compile_program
from needonce.errors import BadImage, CodeError, NeedError
from needonce.image import read_image, write_image
from needonce.lift import lift
from needonce.normal import normal_form
from tests.code_making import CodeMaker
from tests.core_making import CoreMaker
from tests.slow_machine import Bad, slow_image, slow_read

ONE = ("give", ("number", 1))
ONE_ROW = [0, 2, 1]
SIGNS = ("+", "-", "*", "div", "mod", "==", "<", "<=")


class ImageCase(unittest.TestCase):
    def body(self, body, *numbers):
        """The image of a body, and that it is read again."""
        program, row = (((0, body),), 0), [1, 0, *numbers, 0]
        with self.subTest(body):
            self.assertEqual(write_image(program), row)
            self.assertIs(type(write_image(program)), list)
            self.assertEqual(read_image(row), program)

    def member(self, member, *numbers):
        self.body(("let", (member,), ONE), 4, 1, *numbers, *ONE_ROW)

    def refuses(self, row):
        before = list(row)
        with self.subTest(before):
            with self.assertRaises(BadImage) as raised:
                read_image(row)
            self.assertIsInstance(raised.exception, CodeError)
            self.assertIsInstance(raised.exception, NeedError)
            self.assertEqual(row, before)

    def refuses_body(self, *numbers):
        self.refuses([1, 0, *numbers, 0])


class WriteTest(ImageCase):
    def test_operands(self):
        self.body(("give", ("slot", 0)), 0, 0, 0)
        self.body(("give", ("slot", 7)), 0, 0, 7)
        self.body(("give", ("global", 5)), 0, 1, 5)
        self.body(("give", ("number", 4)), 0, 2, 4)
        self.body(("give", ("number", -4)), 0, 2, -4)
        self.body(("give", ("number", 10 ** 40)), 0, 2, 10 ** 40)
        self.body(("give", ("number", -10 ** 40)), 0, 2, -10 ** 40)
        self.body(("give", ("slot", 10 ** 40)), 0, 0, 10 ** 40)

    def test_calls(self):
        self.body(("call", ("slot", 3), (("number", -1),)), 1, 0, 3, 1, 2, -1)
        self.body(("call", ("global", 3), (("number", 9), ("slot", 8), ("global", 7))), 1, 1, 3, 3, 2, 9, 0, 8, 1, 7)

    def test_cons(self):
        self.body(("con", 6, ()), 2, 6, 0)
        self.body(("con", 10 ** 20, (("slot", 1), ("number", 2))), 2, 10 ** 20, 2, 0, 1, 2, 2)

    def test_prims(self):
        for index, sign in enumerate(SIGNS):
            self.body(("prim", sign, ("slot", 4), ("number", 5)), 3, index, 0, 4, 2, 5)

    def test_lets(self):
        self.body(("let", (("con", 3, (("slot", 5),)), ("part", 4, ())), ("give", ("slot", 6))), 4, 2, 1, 3, 1, 0, 5,
                  2, 4, 0,
                  0, 0, 6)

    def test_members(self):
        self.member(("later", (), ("give", ("slot", 9))), 0, 0, 0, 0, 9)
        self.member(("later", (("slot", 4), ("slot", 3)), ONE), 0, 2, 0, 4, 0, 3, *ONE_ROW)
        self.member(("con", 8, (("number", 1), ("slot", 0))), 1, 8, 2, 2, 1, 0, 0)
        self.member(("con", 8, ()), 1, 8, 0)
        self.member(("part", 8, (("global", 1),)), 2, 8, 1, 1, 1)
        self.member(("part", 8, ()), 2, 8, 0)
        self.member(("later", (("slot", 1),), ("let", (("later", (), ONE), ("con", 0, ())), ONE)),
                    0, 1, 0, 1, 4, 2, 0, 0, *ONE_ROW, 1, 0, 0, *ONE_ROW)

    def test_seqs(self):
        self.body(("seq", ONE, ("give", ("slot", 2))), 5, *ONE_ROW, 0, 0, 2)
        self.body(("seq", ("seq", ONE, ONE), ("seq", ONE, ("con", 0, ()))), 5, 5, *ONE_ROW, *ONE_ROW, 5, *ONE_ROW, 2,
                  0, 0)

    def test_cases(self):
        self.body(("case", ONE, (), None), 6, *ONE_ROW, 0, 0)
        self.body(("case", ONE, (), ("con", 4, ())), 6, *ONE_ROW, 0, 1, 2, 4, 0)
        self.body(("case", ONE, ((7, 2, ("con", 5, ())), (0, 0, ONE)), None), 6, *ONE_ROW, 2, 7, 2, 2, 5, 0, 0, 0,
                  *ONE_ROW, 0)
        self.body(("case", ("con", 1, ()), ((1, 3, ("case", ONE, ((2, 9, ONE),), ONE)),), ("con", 2, ())),
                  6, 2, 1, 0, 1, 1, 3, 6, *ONE_ROW, 1, 2, 9, *ONE_ROW, 1, *ONE_ROW, 1, 2, 2, 0)

    def test_picks(self):
        self.body(("pick", ONE, (), None), 7, *ONE_ROW, 0, 0)
        self.body(("pick", ONE, ((-3, ("con", 5, ())), (10 ** 30, ONE)), ("con", 4, ())),
                  7, *ONE_ROW, 2, -3, 2, 5, 0, 10 ** 30, *ONE_ROW, 1, 2, 4, 0)

    def test_notes(self):
        self.body(("note", 12, ("note", -10 ** 30, ONE)), 8, 12, 8, -10 ** 30, *ONE_ROW)

    def test_programs(self):
        program = (((2, ("give", ("slot", 1))), (0, ("con", 0, ())), (10 ** 20, ONE)), 1)
        self.assertEqual(write_image(program), [3, 2, 0, 0, 1, 0, 2, 0, 0, 10 ** 20, *ONE_ROW, 1])
        self.assertEqual(read_image(write_image(program)), program)

    def test_by_chance(self):
        for seed in range(300):
            for program in (CodeMaker(seed).program(), compile_program(*normal_form(lift(CoreMaker(seed).program())))):
                before = repr(program)
                row = write_image(program)
                self.assertEqual(row, slow_image(program))
                self.assertEqual(read_image(row), program)
                self.assertEqual(row, slow_image(program))
                self.assertEqual(repr(program), before)

    def test_what_was_returned_may_be_changed(self):
        program = CodeMaker(3).program()
        write_image(program).clear()
        row = write_image(program)
        self.assertEqual(row, slow_image(program))
        again = read_image(row)
        row.clear()
        self.assertEqual(again, program)


class ReadTest(ImageCase):
    def test_every_beginning(self):
        for seed in range(60):
            row = write_image(CodeMaker(seed).program(3))
            for many in range(len(row)):
                self.refuses(row[:many])

    def test_numbers_behind_the_end(self):
        for seed in range(20):
            row = write_image(CodeMaker(seed).program(3))
            for number in (0, 1, -1):
                self.refuses([*row, number])

    def test_no_numbers(self):
        self.refuses([])

    def test_no_functions(self):
        self.assertEqual(read_image([0, 0]), ((), 0))
        self.assertEqual(read_image([0, 5]), ((), 5))
        self.refuses([0])
        self.refuses([-1, 0])
        self.refuses([0, -1])

    def test_arities_and_main(self):
        self.refuses([1, -1, *ONE_ROW, 0])
        self.refuses([1, 0, *ONE_ROW, -1])
        self.refuses([-1, 0, *ONE_ROW, 0])
        self.refuses([2, 0, *ONE_ROW, 0])
        self.assertEqual(read_image([1, 9, *ONE_ROW, 77]), (((9, ONE),), 77))

    def test_first_numbers_of_bodies(self):
        for number in (-1, 9, 10, 10 ** 9):
            self.refuses_body(number, 2, 1)
            self.refuses_body(5, number, 2, 1, *ONE_ROW)
            self.refuses_body(5, *ONE_ROW, number, 2, 1)

    def test_operands(self):
        for number in (-1, 3, 4):
            self.refuses_body(0, number, 1)
            self.refuses_body(1, number, 1, 1, 0, 0)
            self.refuses_body(1, 0, 0, 1, number, 0)
            self.refuses_body(3, 0, number, 1, 0, 0)
            self.refuses_body(3, 0, 0, 0, number, 1)
        self.refuses_body(0, 0, -1)
        self.refuses_body(0, 1, -1)
        self.refuses_body(2, 0, 1, 0, -1)
        self.refuses_body(2, 0, 2, 0, 0, 1, -1)

    def test_slots_and_indexes_that_are_too_large(self):
        self.body(("call", ("slot", 10 ** 9), (("global", 10 ** 9),)), 1, 0, 10 ** 9, 1, 1, 10 ** 9)
        self.member(("later", (("slot", 10 ** 9),), ONE), 0, 1, 0, 10 ** 9, *ONE_ROW)
        self.member(("part", 10 ** 9, ()), 2, 10 ** 9, 0)

    def test_lengths(self):
        self.refuses_body(1, 0, 0, 0)
        self.refuses_body(1, 0, 0, -1)
        self.refuses_body(2, 0, -1)
        self.refuses_body(4, 0, *ONE_ROW)
        self.refuses_body(4, -1, *ONE_ROW)
        self.refuses_body(6, *ONE_ROW, -1, 0)
        self.refuses_body(7, *ONE_ROW, -1, 0)
        self.refuses_body(4, 1, 0, -1, *ONE_ROW, *ONE_ROW)
        self.refuses_body(4, 1, 1, 0, -1, *ONE_ROW)
        self.refuses_body(4, 1, 2, 0, -1, *ONE_ROW)

    def test_lengths_that_are_much_too_large(self):
        for huge in (10 ** 9, 10 ** 30):
            self.refuses([huge, 0, *ONE_ROW, 0])
            for begin in ((1, 0, 0), (2, 0), (4,), (6, *ONE_ROW), (7, *ONE_ROW), (4, 1, 0), (4, 1, 1, 0), (4, 1, 2, 0)):
                self.refuses_body(*begin, huge, 0, 0, 0)

    def test_tags_counts_and_indexes(self):
        self.refuses_body(2, -1, 0)
        self.refuses_body(6, *ONE_ROW, 1, -1, 0, *ONE_ROW, 0)
        self.refuses_body(6, *ONE_ROW, 1, 0, -1, *ONE_ROW, 0)
        self.refuses_body(4, 1, 1, -1, 0, *ONE_ROW)
        self.refuses_body(4, 1, 2, -1, 0, *ONE_ROW)
        self.body(("pick", ONE, ((-1, ONE),), None), 7, *ONE_ROW, 1, -1, *ONE_ROW, 0)
        self.body(("note", -1, ONE), 8, -1, *ONE_ROW)

    def test_signs(self):
        for number in (-1, 8, 9):
            self.refuses_body(3, number, 0, 0, 0, 0)

    def test_first_numbers_of_members(self):
        for number in (-1, 3, 4):
            self.refuses_body(4, 1, number, 0, 0, *ONE_ROW)

    def test_operands_of_a_later(self):
        for first in (1, 2, 3, -1):
            self.refuses_body(4, 1, 0, 1, first, 0, *ONE_ROW, *ONE_ROW)
            self.refuses_body(4, 1, 0, 2, 0, 0, first, 0, *ONE_ROW, *ONE_ROW)
        self.refuses_body(4, 1, 0, 1, 0, -1, *ONE_ROW, *ONE_ROW)

    def test_defaults(self):
        for number in (-1, 2, 3):
            self.refuses_body(6, *ONE_ROW, 0, number, *ONE_ROW)
            self.refuses_body(7, *ONE_ROW, 0, number, *ONE_ROW)
            self.refuses_body(6, *ONE_ROW, 0, number)
        self.refuses_body(6, *ONE_ROW, 0, 0, *ONE_ROW)
        self.refuses_body(6, *ONE_ROW, 0, 1)

    def test_by_chance(self):
        kinds = {True: 0, False: 0}
        for seed in range(400):
            row = write_image(CodeMaker(seed).program(3))
            chance = random.Random(seed)
            for _ in range(15):
                other = self.changed(row, chance)
                before = list(other)
                try:
                    expected = slow_read(other)
                except Bad:
                    self.refuses(other)
                    kinds[False] += 1
                else:
                    self.assertEqual(read_image(other), expected)
                    self.assertEqual(write_image(expected), other)
                    kinds[True] += 1
                self.assertEqual(other, before)
        self.assertGreater(min(kinds.values()), 500)

    @staticmethod
    def changed(row, chance):
        row = list(row)
        place = chance.randrange(len(row))
        how = chance.randrange(4)
        if how == 0:
            del row[place]
        elif how == 1:
            row.insert(place, chance.randrange(-1, 10))
        elif how == 2:
            row[place] += chance.choice((-1, 1, -2, 2, 5))
        else:
            row[place] = chance.choice((0, 1, 2, 3, -1, 8, 9, 10 ** 9))
        return row


if __name__ == "__main__":
    unittest.main()

"""Reading and writing many programs: points 1.5 to 1.10, 2.1 to 2.8."""

import random
import unittest

from needonce.errors import Unexpected
from needonce.layout import layout, layout_in_braces
from needonce.parser import parse, parse_expr, parse_kind
from needonce.printing import print_declaration, print_expr, print_kind, print_program
from needonce.tokens import tokens
from tests.earley import first_not_allowed
from tests.making import Maker
from tests.rows import RowWriter

PIECES = ("data", "class", "instance", "where", "let", "in", "case", "of", "if", "then", "else", "div", "mod", "note",
          "=", "|", "->", "=>", "::", "\\", "(", ")", "[", "]", ",", ";", "{", "}", "+", "-", "*", "==", "<", "<=",
          ":", "a", "b", "C", "D", "0", "12", "\n", "\n  ")


def place(read, text):
    """The place at which reading a text finds it wrong, or None."""
    try:
        read(text)
    except Unexpected as error:
        return error.row, error.column
    return None


def place_by_grammar(row, start):
    at = first_not_allowed(row, start)
    return None if at is None else row[at][2:]


def pieces_of(text):
    """The tokens of a text with the white space and the comments before them."""
    starts = [0]
    for row in text.split("\n"):
        starts.append(starts[-1] + len(row) + 1)
    found = []
    at = 0
    for _, word, row, column in tokens(text):
        end = starts[row - 1] + column - 1 + len(word)
        found.append(text[at:end])
        at = end
    return found


class PrintedTest(unittest.TestCase):
    def test_programs(self):
        for seed in range(1500):
            program = Maker(seed).program(seed % 6)
            text = print_program(program)
            self.assertEqual(parse(text), program, text)
            self.assertEqual(text, "".join(print_declaration(declaration) + "\n" for declaration in program))
            self.assertEqual(print_program(parse(text)), text)

    def test_expressions(self):
        for seed in range(3000):
            tree = Maker(seed).expr(seed % 7)
            text = print_expr(tree)
            self.assertEqual(parse_expr(text), tree, text)

    def test_types(self):
        for seed in range(3000):
            tree = Maker(seed).kind(seed % 7)
            text = print_kind(tree)
            self.assertEqual(parse_kind(text), tree, text)

    def test_no_parentheses_can_be_left_out(self):
        for seed in range(600):
            tree = Maker(seed).expr(1 + seed % 4)
            words = pieces_of(print_expr(tree))
            for left, right in pairs_of_parentheses(words):
                fewer = words[:left] + words[left + 1:right] + words[right + 1:]
                fewer = " ".join(word.strip() for word in fewer)
                self.assertNotEqual(read_or_none(parse_expr, fewer), tree, fewer)

    def test_no_parentheses_of_types_can_be_left_out(self):
        for seed in range(600):
            tree = Maker(seed).kind(1 + seed % 4)
            words = pieces_of(print_kind(tree))
            for left, right in pairs_of_parentheses(words):
                fewer = words[:left] + words[left + 1:right] + words[right + 1:]
                fewer = " ".join(word.strip() for word in fewer)
                self.assertNotEqual(read_or_none(parse_kind, fewer), tree, fewer)


def pairs_of_parentheses(words):
    found = []
    open_ones = []
    for at, word in enumerate(words):
        if word.strip() == "(":
            open_ones.append(at)
        elif word.strip() == ")":
            found.append((open_ones.pop(), at))
    return found


def read_or_none(read, text):
    try:
        return read(text)
    except Unexpected:
        return None


class RowsTest(unittest.TestCase):
    def test_blocks_in_rows_and_in_braces(self):
        for seed in range(3000):
            program = Maker(seed).program(seed % 5)
            text = RowWriter(random.Random(seed)).program(program)
            self.assertEqual(parse(text), program, text)

    def test_with_explicit_braces_for_all_that_layout_adds(self):
        for seed in range(600):
            program = Maker(seed).program(seed % 5)
            text = RowWriter(random.Random(seed)).program(program)
            words = [token[1] for token in layout(tokens(text))]
            self.assertEqual(parse(" ".join(words)), program, text)
            self.assertEqual(parse("\n".join(words)), program, text)


class CutOffTest(unittest.TestCase):
    def check(self, text):
        pieces = pieces_of(text)
        for many in range(len(pieces)):
            cut = "".join(pieces[:many])
            end = tokens(cut)[-1]
            self.assertIn(place(parse, cut), (None, end[2:]), cut)

    def test_programs_in_rows(self):
        for seed in range(150):
            maker = Maker(seed, contexts=False)
            self.check(RowWriter(random.Random(seed)).program(maker.program(seed % 4)))

    def test_printed_programs(self):
        for seed in range(150):
            self.check(print_program(Maker(seed, contexts=False).program(seed % 4)))

    def test_contexts_of_one_pair_in_signatures(self):
        self.check("f :: Eq a => a\ng = let { h :: Eq a => a ; h = 1 } in h")

    def test_without_its_sign_a_context_is_none(self):
        # What is left has no sign => any more, and so no context, by point 2.2.
        self.assertEqual(place(parse, "f :: (Eq a, Ord"), (1, 11))
        self.assertEqual(place(parse, "instance Eq a"), (1, 13))


class GrammarTest(unittest.TestCase):
    """The place of Unexpected, compared with another reading of the grammar."""

    def check_program(self, text):
        self.assertEqual(place(parse, text), place_by_grammar(layout(tokens(text)), "program"), text)

    def test_programs_with_something_wrong(self):
        chance = random.Random(5)
        for seed in range(2500):
            maker = Maker(seed)
            text = RowWriter(chance).program(maker.program(seed % 4)) if seed % 2 else print_program(maker.program(2))
            pieces = pieces_of(text)
            if len(pieces) < 120:
                self.check_program("".join(changed(chance, pieces)))

    def test_short_programs_of_any_tokens(self):
        chance = random.Random(6)
        for _ in range(4000):
            self.check_program(" ".join(chance.choice(PIECES) for _ in range(chance.randrange(9))))

    def test_expressions_with_something_wrong(self):
        chance = random.Random(7)
        for seed in range(2500):
            text = "".join(changed(chance, pieces_of(print_expr(Maker(seed).expr(1 + seed % 4)))))
            if len(text) < 400:
                self.assertEqual(place(parse_expr, text),
                                 place_by_grammar(layout_in_braces(tokens(text)), "expr_text"), text)

    def test_types_with_something_wrong(self):
        chance = random.Random(8)
        for seed in range(2500):
            text = "".join(changed(chance, pieces_of(print_kind(Maker(seed).kind(1 + seed % 4)))))
            if len(text) < 400:
                self.assertEqual(place(parse_kind, text),
                                 place_by_grammar(layout_in_braces(tokens(text)), "kind_text"), text)


def changed(chance, pieces):
    """The pieces of a text with one or two of them left out, added, changed or in another order."""
    pieces = list(pieces)
    for _ in range(chance.choice((0, 1, 1, 2))):
        at = chance.randrange(len(pieces))
        word = chance.choice(("left out", "added", "changed", "in another order"))
        if word == "left out":
            pieces[at] = " "
        elif word == "added":
            pieces.insert(at, " " + chance.choice(PIECES) + " ")
        elif word == "changed":
            pieces[at] = " " + chance.choice(PIECES) + " "
        else:
            other = chance.randrange(len(pieces))
            pieces[at], pieces[other] = " " + pieces[other] + " ", " " + pieces[at] + " "
    return pieces


if __name__ == "__main__":
    unittest.main()

"""Tokens: points 1.1 to 1.4."""

import random
import re
import unittest

from needonce.errors import BadCharacter, BadNumber
from needonce.tokens import KEYWORDS, tokens

ALL_SIGNS = ("=", "|", "->", "=>", "::", "\\", "(", ")", "[", "]", ",", ";", "{", "}", "+", "-", "*", "==", "<", "<=",
             ":")


def words(text):
    """The kinds and texts of the tokens before the end token."""
    return [token[:2] for token in tokens(text)[:-1]]


def outcome(read, text):
    try:
        return read(text)
    except (BadCharacter, BadNumber) as error:
        return type(error).__name__, error.row, error.column


def slow_tokens(text):
    """Another reading of points 1.2 to 1.4, with regular expressions."""
    pattern = re.compile(r"(?P<skip>[ \n]+|--[^\n]*)|(?P<name>[a-z][A-Za-z0-9_']*)|(?P<con>[A-Z][A-Za-z0-9_']*)"
                         r"|(?P<number>[0-9][A-Za-z0-9_']*)|(?P<sign>->|=>|::|==|<=|[=|\\()\[\],;{}+\-*<:])")
    found = []
    at = 0
    while at < len(text):
        row = text.count("\n", 0, at) + 1
        column = at - (text.rfind("\n", 0, at) + 1) + 1
        match = pattern.match(text, at)
        if match is None:
            raise BadCharacter(row, column)
        kind, word = match.lastgroup, match.group()
        if kind == "number" and (not re.fullmatch("0|[1-9][0-9]{0,12}", word) or int(word) > 10 ** 12):
            raise BadNumber(row, column)
        if kind == "name" and word in KEYWORDS:
            kind = "keyword"
        if kind != "skip":
            found.append((kind, word, row, column))
        at = match.end()
    rows = text.split("\n")
    return found + [("end", "", len(rows), len(rows[-1]) + 1)]


class KindsTest(unittest.TestCase):
    def test_keywords_in_order(self):
        self.assertEqual(KEYWORDS, ("data", "class", "instance", "where", "let", "in", "case", "of", "if", "then",
                                    "else", "div", "mod", "note"))

    def test_each_keyword(self):
        for word in KEYWORDS:
            self.assertEqual(words(word), [("keyword", word)])

    def test_names_that_begin_like_keywords(self):
        for word in KEYWORDS:
            for name in (word + "s", word + "'", word + "_", word + "1", word + "X", word + word):
                self.assertEqual(words(name), [("name", name)])
            capital = word[0].upper() + word[1:]
            self.assertEqual(words(capital), [("con", capital)])

    def test_names_and_constructors(self):
        for name in ("a", "z", "aB_'9", "x'", "x_", "x0", "a" * 200, "main", "zipWith", "x''_'"):
            self.assertEqual(words(name), [("name", name)])
            capital = name[0].upper() + name[1:]
            self.assertEqual(words(capital), [("con", capital)])

    def test_a_word_ends_before_what_does_not_belong_to_it(self):
        self.assertEqual(words("ab+Cd(e'"), [("name", "ab"), ("sign", "+"), ("con", "Cd"), ("sign", "("),
                                             ("name", "e'")])

    def test_each_sign(self):
        for sign in ALL_SIGNS:
            self.assertEqual(words(sign), [("sign", sign)])
            self.assertEqual(words(f"x{sign}y"), [("name", "x"), ("sign", sign), ("name", "y")])

    def test_the_longer_sign_is_taken(self):
        for text, signs in (("===", ["==", "="]), ("==>", ["==", None]), ("=>=", ["=>", "="]), (":::", ["::", ":"]),
                            ("::::", ["::", "::"]), ("<==", ["<=", "="]), ("<=>", ["<=", None]), ("<-", ["<", "-"]),
                            ("<->", ["<", "->"]), ("=->", ["=", "->"]), ("->->", ["->", "->"]), ("|->", ["|", "->"]),
                            ("*->", ["*", "->"]), ("<<=", ["<", "<="]), (":=", [":", "="]), ("= =", ["=", "="]),
                            ("- >", ["-", None]), (": :", [":", ":"]), ("< =", ["<", "="])):
            with self.subTest(text):
                if None in signs:
                    with self.assertRaises(BadCharacter):
                        tokens(text)
                else:
                    self.assertEqual(words(text), [("sign", sign) for sign in signs])

    def test_numbers(self):
        for word in ("0", "1", "9", "10", "999999999999", "1000000000000"):
            self.assertEqual(words(word), [("number", word)])

    def test_a_number_ends_before_a_sign(self):
        self.assertEqual(words("1+2"), [("number", "1"), ("sign", "+"), ("number", "2")])
        self.assertEqual(words("(0)"), [("sign", "("), ("number", "0"), ("sign", ")")])

    def test_a_hyphen_is_no_part_of_a_number(self):
        self.assertEqual(words("-1"), [("sign", "-"), ("number", "1")])


class CommentsTest(unittest.TestCase):
    def test_comments(self):
        self.assertEqual(words("a -- b\nc"), [("name", "a"), ("name", "c")])
        self.assertEqual(words("a--b\nc"), [("name", "a"), ("name", "c")])
        self.assertEqual(words("a ---b\nc"), [("name", "a"), ("name", "c")])

    def test_a_comment_also_before_a_greater_sign(self):
        self.assertEqual(words("a --> b\nc"), [("name", "a"), ("name", "c")])
        self.assertEqual(words("-->"), [])

    def test_a_comment_behind_a_sign(self):
        self.assertEqual(words("->-- b"), [("sign", "->")])
        self.assertEqual(words("<--b"), [("sign", "<")])
        self.assertEqual(words("|--b"), [("sign", "|")])
        self.assertEqual(words("- --b"), [("sign", "-")])

    def test_a_comment_at_the_end(self):
        self.assertEqual(tokens("a -- b"), [("name", "a", 1, 1), ("end", "", 1, 7)])
        self.assertEqual(tokens("--"), [("end", "", 1, 3)])
        self.assertEqual(tokens("--\n"), [("end", "", 2, 1)])

    def test_what_a_comment_holds_is_not_examined(self):
        inside = "".join(chr(code) for code in range(1, 256) if chr(code) != "\n") + "\u20ac 007 1x"
        self.assertEqual(tokens("--" + inside + "\na"), [("name", "a", 2, 1), ("end", "", 2, 2)])


class PlacesTest(unittest.TestCase):
    def test_rows_and_columns(self):
        self.assertEqual(tokens("ab  C\n  1\n\n->x"), [
            ("name", "ab", 1, 1), ("con", "C", 1, 5), ("number", "1", 2, 3), ("sign", "->", 4, 1),
            ("name", "x", 4, 3), ("end", "", 4, 4)])

    def test_the_end_token(self):
        self.assertEqual(tokens(""), [("end", "", 1, 1)])
        self.assertEqual(tokens("\n"), [("end", "", 2, 1)])
        self.assertEqual(tokens("  "), [("end", "", 1, 3)])
        self.assertEqual(tokens("a"), [("name", "a", 1, 1), ("end", "", 1, 2)])
        self.assertEqual(tokens("a\n"), [("name", "a", 1, 1), ("end", "", 2, 1)])
        self.assertEqual(tokens("a\n\n  "), [("name", "a", 1, 1), ("end", "", 3, 3)])

    def test_later_changes_have_no_effect(self):
        first = tokens("a b")
        first.clear()
        self.assertEqual(len(tokens("a b")), 3)


class WrongTextsTest(unittest.TestCase):
    def check(self, text, error_class, row, column):
        with self.subTest(text[:40]):
            with self.assertRaises(error_class) as caught:
                tokens(text)
            self.assertIs(type(caught.exception), error_class)
            self.assertEqual((caught.exception.row, caught.exception.column), (row, column))

    def test_bad_numbers(self):
        for word in ("00", "01", "007", "0x", "1x", "1_000", "1'", "9A", "1a1", "0'", "0_", "1000000000001",
                     "9999999999999", "10000000000000", "1" + "0" * 5000, "9" * 5000, "0" * 5000):
            self.check(word, BadNumber, 1, 1)
            self.check("a\n  " + word + " b", BadNumber, 2, 3)

    def test_bad_characters(self):
        for letter in "!\"#$%&./>?@^_`'~\t\r\x00\x7f\u00e9\u00b2\u0661\u20ac\u2028":
            self.check(letter, BadCharacter, 1, 1)
            self.check("a\n b" + " " + letter, BadCharacter, 2, 4)

    def test_a_bad_character_behind_a_word(self):
        self.check("a\u00e9", BadCharacter, 1, 2)
        self.check("1\u00b2", BadCharacter, 1, 2)
        self.check("a.b", BadCharacter, 1, 2)
        self.check("1>2", BadCharacter, 1, 2)
        self.check("a%b", BadCharacter, 1, 2)

    def test_a_greater_sign_begins_no_token(self):
        self.check("->>", BadCharacter, 1, 3)
        self.check(">=", BadCharacter, 1, 1)

    def test_the_first_error_from_the_left(self):
        self.check("01 %", BadNumber, 1, 1)
        self.check("% 01", BadCharacter, 1, 1)
        self.check("a\nb 1x\n%", BadNumber, 2, 3)
        self.check("a\nb %\n1x", BadCharacter, 2, 3)
        self.check("-- %\n 01", BadNumber, 2, 2)


class OtherReadingTest(unittest.TestCase):
    def test_many_texts(self):
        chance = random.Random(1)
        pieces = [*ALL_SIGNS, *KEYWORDS, " ", " ", "\n", "--", "a", "B", "0", "1", "12", "_", "'", "x'", "C_1", ">", "%"]
        for _ in range(3000):
            text = "".join(chance.choice(pieces) for _ in range(chance.randrange(12)))
            self.assertEqual(outcome(tokens, text), outcome(slow_tokens, text), text)

    def test_all_short_texts(self):
        letters = "a0_ \n-=:<>|\\%"
        texts = [""]
        for _ in range(4):
            texts = [text + letter for text in texts for letter in letters]
            if len(texts) > 30000:
                break
            for text in texts:
                self.assertEqual(outcome(tokens, text), outcome(slow_tokens, text), text)


if __name__ == "__main__":
    unittest.main()

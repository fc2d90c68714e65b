"""Layout: points 1.5 to 1.10."""

import unittest

from needonce.layout import layout
from needonce.tokens import tokens


def laid_out(text):
    """The texts of the tokens with those that layout adds, without the end."""
    found = layout(tokens(text))
    assert found[-1] == tokens(text)[-1]
    return " ".join(token[1] for token in found[:-1])


def added(text):
    """The tokens that layout adds to a text, as (text, row, column)."""
    row = tokens(text)
    found = []
    for token in layout(row):
        if row and token == row[0]:
            row = row[1:]
        else:
            assert token[0] == "sign"
            found.append(token[1:])
    assert row == []
    return found


class LayoutCase(unittest.TestCase):
    def check(self, text, wanted):
        with self.subTest(text):
            self.assertEqual(laid_out(text), wanted)


class BlocksTest(LayoutCase):
    def test_the_example(self):
        self.check("f x = case x of\n  A -> 1\n  B -> 2", "{ f x = case x of { A -> 1 ; B -> 2 } }")

    def test_the_beginning(self):
        self.check("a", "{ a }")
        self.check("a\nb\nc", "{ a ; b ; c }")
        self.check("   a\n   b", "{ a ; b }")
        self.check("\n\n  a", "{ a }")

    def test_an_empty_text(self):
        self.check("", "{ }")
        self.check("\n  -- nothing\n", "{ }")
        self.assertEqual(layout(tokens("\n ")), [("sign", "{", 2, 2), ("sign", "}", 2, 2), ("end", "", 2, 2)])

    def test_where_let_and_of_open_blocks(self):
        self.check("class C a where\n  f\n  g\nh", "{ class C a where { f ; g } ; h }")
        self.check("x = let a\n        b\n    in c", "{ x = let { a ; b } in c }")
        self.check("x = case y of A\n              B\nz", "{ x = case y of { A ; B } ; z }")

    def test_of_opens_a_block_without_a_case(self):
        self.check("a of b", "{ a of { b } }")

    def test_other_keywords_open_no_block(self):
        self.check("data\n x\n class\n x\n instance\n x\n note\n x\n div\n x\n mod\n x",
                   "{ data x class x instance x note x div x mod x }")

    def test_a_name_that_begins_like_a_keyword_opens_no_block(self):
        self.check("where'\n  a", "{ where' a }")

    def test_an_explicit_brace(self):
        self.check("{ a\nb }", "{ a b }")
        self.check("x = let { a\nb } in c", "{ x = let { a b } in c }")
        self.check("a where {\nb\n}", "{ a where { b } }")
        self.check("a where { }", "{ a where { } }")

    def test_the_block_has_the_column_of_its_first_token(self):
        self.check("a where b\n         c\n   d", "{ a where { b c } d }")
        self.check("a where b\n  c", "{ a where { b } c }")
        self.check("a where  b\n         c", "{ a where { b ; c } }")


class ClosedAtOnceTest(LayoutCase):
    def test_not_further_to_the_right(self):
        self.check("a where\nb", "{ a where { } ; b }")
        self.check("  a where\n  b", "{ a where { } ; b }")
        self.check("  a where\n   b", "{ a where { b } }")

    def test_further_to_the_left(self):
        self.check("  a where\n b", "{ a where { } } b")

    def test_at_the_end(self):
        self.check("a where", "{ a where { } }")
        self.check("a where\n      ", "{ a where { } }")
        self.check("x = let", "{ x = let { } }")

    def test_in_an_inner_block(self):
        self.check("a where\n  b where\n  c\nd", "{ a where { b where { } ; c } ; d }")

    def test_markers_do_not_matter(self):
        self.check("  a (b where\n  c)", "{ a ( b where { } c ) }")
        self.check("  a (b where\n c)", "{ a ( b where { } c ) }")
        self.check("  a { b where\n c }", "{ a { b where { } c } }")
        self.check("  a (b where\n   c)", "{ a ( b where { c } ) }")

    def test_no_block_in_braces_has_the_column_0(self):
        self.check("{ a where\nb }", "{ a where { b } }")

    def test_let_and_in(self):
        self.check("x = let in a", "{ x = let { } in a }")
        self.check("x = let\nin a", "{ x = let { } in a }")

    def test_the_token_after_it_may_open_things(self):
        self.check("a where\n(b\n c)", "{ a where { } ; ( b c ) }")


class RowsTest(LayoutCase):
    def test_greater_columns_add_nothing(self):
        self.check("a\n b\n  c\n d", "{ a b c d }")

    def test_equal_columns(self):
        self.check(" a\n b\n\n c", "{ a ; b ; c }")

    def test_less_columns(self):
        self.check("a where\n  b where\n    c\nd", "{ a where { b where { c } } ; d }")
        self.check("a where\n  b where\n    c\n  d", "{ a where { b where { c } ; d } }")
        self.check("a where\n  b where\n    c\n   d", "{ a where { b where { c } d } }")

    def test_less_than_all_blocks(self):
        self.check("   a\n b", "{ a } b")
        self.check("   a\n b\n c", "{ a } b c")

    def test_only_the_first_token_of_a_row(self):
        self.check("a where b\n  c d", "{ a where { b } c d }")
        self.check("a b\na b", "{ a b ; a b }")

    def test_later_tokens_of_a_row_behind_a_closed_marker(self):
        # What closes the marker stands in a row further to the left; the rest of its row is as far to the left.
        for left, right in (("(", ")"), ("[", "]"), ("{", "}"), ("if", "then d else"), ("case", "of { }")):
            self.check(f"        a {left} b\n{right} c", f"{{ a {left} b {right} c }}")
        self.check("   a (\nb) c", "{ a ( b ) c }")
        self.check("    a (\nb) c", "{ a ( b ) c }")
        self.check("        a let { b }\nin c", "{ a let { b } in c }")

    def test_the_token_that_opens_a_block_adds_no_semicolon(self):
        self.check("a where\n  b", "{ a where { b } }")

    def test_the_first_token_of_a_row_behind_a_comment_row(self):
        self.check("a\n-- c\nb", "{ a ; b }")

    def test_an_explicit_brace_first_in_its_row(self):
        self.check("a where\n{ b }", "{ a where ; { b } }")
        self.check(" a where\n{ b }", "{ a where } { b }")
        self.check("a where\n { b }", "{ a where { b } }")
        self.check("x = let\n{ b } in c", "{ x = let { b } in c }")

    def test_a_marker_on_top(self):
        for left, right in ("()", "[]", "{}"):
            self.check(f"  a {left}\n  b\nc {right}\n  d", f"{{ a {left} b c {right} ; d }}")
        self.check("  a case\n  b\nc", "{ a case b c }")
        self.check("  a if\n  b\nc", "{ a if b c }")
        self.check("  a if b then\n  b\nc", "{ a if b then b c }")
        self.check("  a let { b }\n  b\nc", "{ a let { b } b c }")

    def test_blocks_above_a_marker_are_closed_and_then_nothing(self):
        self.check("  a (b where\n     c\n  d)", "{ a ( b where { c } d ) }")

    def test_other_closed_markers_add_semicolons_again(self):
        self.check("a (b)\nc", "{ a ( b ) ; c }")
        self.check("a let b in c\nd", "{ a let { b } in c ; d }")
        self.check("a if b then c else d\ne", "{ a if b then c else d ; e }")
        self.check("a case b of c\nd", "{ a case b of { c } ; d }")


class ClosersTest(LayoutCase):
    def test_brackets(self):
        for left, right in ("()", "[]", "{}"):
            self.check(f"a {left} b where c {right} d", f"{{ a {left} b where {{ c }} {right} d }}")
            self.check(f"a {left} b where c of d {right} e", f"{{ a {left} b where {{ c of {{ d }} }} {right} e }}")

    def test_brackets_close_their_own_marker_only(self):
        self.check("a ( b where c ] d ) e", "{ a ( b where { c ] d } ) e }")
        self.check("a [ b where c ) d ] e", "{ a [ b where { c ) d } ] e }")
        self.check("a ( b where c } d ) e", "{ a ( b where { c } d } ) e }")
        self.check("a { b where c ) d } e", "{ a { b where { c ) d } } e }")

    def test_brackets_without_a_marker(self):
        self.check("a where b ) c", "{ a where { b ) c } }")
        self.check("a where b ] c", "{ a where { b ] c } }")
        self.check("a where b } c", "{ a where { b } c } }")

    def test_the_innermost_marker_counts(self):
        self.check("a ( b [ c where d ) e", "{ a ( b [ c where { d ) e } }")
        self.check("a ( b let c ) d", "{ a ( b let { c ) d } }")
        self.check("a ( b case c ) d", "{ a ( b case c ) d }")
        self.check("a ( b if c ) d\ne", "{ a ( b if c ) d e }")

    def test_the_comma(self):
        self.check("( a where b , c where d )", "{ ( a where { b } , c where { d } ) }")
        self.check("[ a where b , c where d ]", "{ [ a where { b } , c where { d } ] }")
        self.check("( a of b of c , d )", "{ ( a of { b of { c } } , d ) }")

    def test_the_comma_without_its_marker(self):
        self.check("a where b , c", "{ a where { b , c } }")
        self.check("{ a where b , c }", "{ a where { b , c } }")
        self.check("( let a , b )", "{ ( let { a , b ) } }")
        self.check("( case a where b , c )", "{ ( case a where { b , c ) } }")

    def test_the_marker_of_a_comma_stays(self):
        self.check("  ( a ,\n  b ,\nc where d )", "{ ( a , b , c where { d } ) }")

    def test_let_and_in(self):
        self.check("let a = b in c", "{ let { a = b } in c }")
        self.check("let a = let b = c in d in e", "{ let { a = let { b = c } in d } in e }")
        self.check("let a = case b of c in d", "{ let { a = case b of { c } } in d }")
        self.check("let { a = b } in c", "{ let { a = b } in c }")
        self.check("let { a = case b of c } in d", "{ let { a = case b of { c } } in d }")
        self.check("let { a = case b of c in d }", "{ let { a = case b of { c in d } } }")

    def test_in_without_a_let(self):
        self.check("a where b in c", "{ a where { b in c } }")
        self.check("let a = ( b where c in d )", "{ let { a = ( b where { c in d } ) } }")

    def test_in_first_in_its_row(self):
        self.check("f = let\n    a = b\n    in c", "{ f = let { a = b ; } in c }")
        self.check("f = let\n    a = b\n  in c", "{ f = let { a = b } in c }")
        self.check("f = let\n    a = b\nin c\ng", "{ f = let { a = b } in c ; g }")
        self.check("f = let\n    a = b\n     in c", "{ f = let { a = b } in c }")

    def test_case_and_of(self):
        self.check("case case a of b of c", "{ case case a of { b } of { c } }")
        self.check("case a where b of c", "{ case a where { b } of { c } }")
        self.check("case ( a where b of c )", "{ case ( a where { b of { c } } ) }")
        self.check("case let a = b in c of d", "{ case let { a = b } in c of { d } }")

    def test_the_marker_of_case_goes_with_of(self):
        self.check("  case a of\n   b\n  c", "{ case a of { b } ; c }")

    def test_if_then_else(self):
        self.check("if a of b then c of d else e of f", "{ if a of { b } then c of { d } else e of { f } }")
        self.check("if if a then b else c of d then e else f", "{ if if a then b else c of { d } then e else f }")
        self.check("if a then if b then c of d else e of f else g",
                   "{ if a then if b then c of { d } else e of { f } else g }")
        self.check("if a then b else c of d else e", "{ if a then b else c of { d else e } }")

    def test_then_without_an_if(self):
        self.check("a where b then c", "{ a where { b then c } }")
        self.check("a where b then c where d else e", "{ a where { b then c where { d else e } } }")
        self.check("if ( a where b then c )", "{ if ( a where { b then c } ) }")

    def test_else_without_a_then(self):
        self.check("a where b else c", "{ a where { b else c } }")
        self.check("if a where b else c", "{ if a where { b else c } }")
        self.check("if a then ( b where c else d )", "{ if a then ( b where { c else d } ) }")

    def test_the_marker_then_goes_with_else(self):
        self.check("  if a then\nb else\n  c", "{ if a then b else ; c }")

    def test_other_tokens_close_nothing(self):
        self.check("let a where b ; c = d | e -> f => g :: h \\ i + j - k * l == m < n <= o : p",
                   "{ let { a where { b ; c = d | e -> f => g :: h \\ i + j - k * l == m < n <= o : p } } }")
        self.check("case a where b data c class d instance e div f mod g note h",
                   "{ case a where { b data c class d instance e div f mod g note h } }")


class EndTest(LayoutCase):
    def test_blocks_are_closed(self):
        self.check("a where b of c", "{ a where { b of { c } } }")

    def test_markers_are_dropped(self):
        self.check("( [ { let a case b of c if d", "{ ( [ { let { a case b of { c if d } } }")
        self.check("{ a", "{ a")
        self.check("{ a where b", "{ a where { b }")

    def test_the_end_stays_last(self):
        row = layout(tokens("a where\n b\n"))
        self.assertEqual([token for token in row if token[0] == "end"], [row[-1]])
        self.assertEqual(row[-1], ("end", "", 3, 1))


class PlacesTest(LayoutCase):
    def test_places_of_added_tokens(self):
        self.assertEqual(added("f = case x of\n  A -> 1\n  B -> 2\ng\n"), [
            ("{", 1, 1), ("{", 2, 3), (";", 3, 3), ("}", 4, 1), (";", 4, 1), ("}", 5, 1)])

    def test_places_of_blocks_closed_by_a_token(self):
        self.assertEqual(added("a (b of c of d)"), [
            ("{", 1, 1), ("{", 1, 9), ("{", 1, 14), ("}", 1, 15), ("}", 1, 15), ("}", 1, 16)])

    def test_places_of_blocks_closed_at_once(self):
        self.assertEqual(added("a of\nb"), [("{", 1, 1), ("{", 2, 1), ("}", 2, 1), (";", 2, 1), ("}", 2, 2)])
        self.assertEqual(added("a of  "), [("{", 1, 1), ("{", 1, 7), ("}", 1, 7), ("}", 1, 7)])

    def test_the_added_tokens_are_signs(self):
        row = layout(tokens("a of b"))
        self.assertEqual(row, [("sign", "{", 1, 1), ("name", "a", 1, 1), ("keyword", "of", 1, 3),
                               ("sign", "{", 1, 6), ("name", "b", 1, 6), ("sign", "}", 1, 7), ("sign", "}", 1, 7),
                               ("end", "", 1, 7)])


class HoldsTest(LayoutCase):
    def test_the_row_that_is_passed_stays(self):
        row = tokens("a where\n  b (c of d)\ne")
        copy = list(row)
        layout(row)
        self.assertEqual(row, copy)

    def test_later_changes_have_no_effect(self):
        row = tokens("a")
        layout(row).clear()
        self.assertEqual(row, tokens("a"))
        self.assertEqual(len(layout(row)), 4)

    def test_many_contexts(self):
        text = "(" * 300 + "a of b " * 300 + ")" * 300
        self.assertEqual(laid_out(text).count("{"), 301)
        self.assertEqual(laid_out(text).count("}"), 301)


if __name__ == "__main__":
    unittest.main()

"""The prelude: points 2.9 and 2.10."""

import unittest

from needonce.parser import parse
from needonce.prelude import PRELUDE, with_prelude
from needonce.printing import print_declaration, print_program
from needonce.scopes import check_scopes

ROWS = """
data Pair a b = Pair a b
id :: a -> a
id x = x
const :: a -> b -> a
const x y = x
compose :: (b -> c) -> (a -> b) -> a -> c
compose f g x = f (g x)
not :: Bool -> Bool
not b = if b then False else True
and :: Bool -> Bool -> Bool
and a b = if a then b else False
or :: Bool -> Bool -> Bool
or a b = if a then True else b
fst :: Pair a b -> a
fst p = case p of { Pair x y -> x }
snd :: Pair a b -> b
snd p = case p of { Pair x y -> y }
head :: List a -> a
head xs = case xs of { Cons x rest -> x }
tail :: List a -> List a
tail xs = case xs of { Cons x rest -> rest }
map :: (a -> b) -> List a -> List b
map f xs = case xs of { Nil -> [] ; Cons x rest -> f x : map f rest }
filter :: (a -> Bool) -> List a -> List a
filter p xs = case xs of { Nil -> [] ; Cons x rest -> if p x then x : filter p rest else filter p rest }
append :: List a -> List a -> List a
append xs ys = case xs of { Nil -> ys ; Cons x rest -> x : append rest ys }
foldr :: (a -> b -> b) -> b -> List a -> b
foldr f z xs = case xs of { Nil -> z ; Cons x rest -> f x (foldr f z rest) }
take :: Int -> List a -> List a
take n xs = if n <= 0 then [] else case xs of { Nil -> [] ; Cons x rest -> x : take (n - 1) rest }
drop :: Int -> List a -> List a
drop n xs = if n <= 0 then xs else case xs of { Nil -> [] ; Cons x rest -> drop (n - 1) rest }
iterate :: (a -> a) -> a -> List a
iterate f x = x : iterate f (f x)
zipWith :: (a -> b -> c) -> List a -> List b -> List c
zipWith f xs ys = case xs of { Nil -> [] ; Cons x rest -> case ys of { Nil -> [] ; Cons y more -> f x y : zipWith f rest more } }
length :: List a -> Int
length xs = case xs of { Nil -> 0 ; Cons x rest -> 1 + length rest }
sum :: List Int -> Int
sum xs = case xs of { Nil -> 0 ; Cons x rest -> x + sum rest }
upto :: Int -> Int -> List Int
upto a b = if b < a then [] else a : upto (a + 1) b
"""

FUNCTIONS = ("id", "const", "compose", "not", "and", "or", "fst", "snd", "head", "tail", "map", "filter", "append",
             "foldr", "take", "drop", "iterate", "zipWith", "length", "sum", "upto")


class PreludeTest(unittest.TestCase):
    def test_the_text_row_by_row(self):
        wanted = ROWS.strip().split("\n")
        found = PRELUDE.split("\n")
        self.assertEqual(found.pop(), "")
        self.assertEqual(len(found), 43)
        for found_row, wanted_row in zip(found, wanted, strict=True):
            self.assertEqual(found_row, wanted_row)

    def test_each_row_is_in_its_one_form(self):
        program = parse(PRELUDE)
        self.assertEqual(print_program(program), PRELUDE)
        for declaration, row in zip(program, PRELUDE.splitlines(), strict=True):
            self.assertEqual(print_declaration(declaration), row)

    def test_the_declarations(self):
        program = parse(PRELUDE)
        self.assertEqual([(kind, name) for kind, name, *_ in program],
                         [("data", "Pair"), *[(kind, name) for name in FUNCTIONS for kind in ("sign", "define")]])

    def test_with_prelude(self):
        prelude = parse(PRELUDE)
        self.assertEqual(with_prelude(()), prelude)
        own = parse("main = []\nf = main")
        self.assertEqual(with_prelude(own), prelude + own)
        self.assertIs(type(with_prelude(own)), tuple)
        self.assertEqual(own, parse("main = []\nf = main"))

    def test_its_names_are_in_order(self):
        self.assertIsNone(check_scopes(with_prelude(parse("main = upto 1 (sum [length [], fst (Pair 1 2)])"))))


if __name__ == "__main__":
    unittest.main()

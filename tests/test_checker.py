"""From texts to core programs: point 4.17, with the prelude (2.9, 2.10) and the scopes (3.2 to 3.8)."""

import unittest

from needonce.checker import check, schemes
from needonce.core import check_program
from needonce.elaborate import elaborate
from needonce.errors import (Ambiguous, BadCharacter, BadNumber, DoubleName, IllTyped, MissingName, NoInstance,
                             Unexpected, UnknownName, WrongCount)
from needonce.infer import infer_program
from needonce.meaning import shown
from needonce.parser import parse
from needonce.prelude import with_prelude

TEXT = "twice f x = f (f x)\nmain = [twice (\\x -> x + 1) 3]\n"
PRELUDE_NAMES = ["and", "append", "compose", "const", "drop", "filter", "foldr", "fst", "head", "id", "iterate",
                 "length", "map", "not", "or", "snd", "sum", "tail", "take", "upto", "zipWith"]

# Texts with several errors; the first one by the document is that of the pair.
ERRORS = (
    ("main = $ (", BadCharacter), ("main = ( $", BadCharacter), ("main = 01 (", BadNumber),
    ("main = x +", Unexpected), ("main = x\nmain = 1 +", Unexpected),
    ("main = x\nmain = 1", DoubleName), ("main = x + True", UnknownName),
    ("f = 1 + True", MissingName), ("main = 1 + True\nf :: List Int Int\nf = 1", WrongCount),
    ("main = 1\nf x = case x of { Cons y -> 1 }", WrongCount), ("main = 1", IllTyped),
    ("class C a where { c :: a -> Int }\nmain = [c True, 1 + True]", IllTyped),
    ("class C a where { c :: a -> Int }\nmain = [c True]", NoInstance),
    ("class C a where { c :: a -> Int }\nmain = [c []]", NoInstance),
    ("class C a where { c :: a -> Int ; m :: a }\nmain = [c m]", Ambiguous),
)


class CheckTest(unittest.TestCase):
    def test_with_the_prelude(self):
        program = check(TEXT)
        self.assertEqual(program, elaborate(with_prelude(parse(TEXT))))
        self.assertEqual(program, check(TEXT, prelude=True))
        self.assertIsNone(check_program(program))
        self.assertEqual(sorted(name for name, _ in program[0]), sorted([*PRELUDE_NAMES, "twice", "main"]))
        self.assertEqual(shown(program, 1000)[:2], ((("show", 5), ("end",)), ("end",)))

    def test_without_the_prelude(self):
        program = check(TEXT, prelude=False)
        self.assertEqual(program, elaborate(parse(TEXT)))
        self.assertEqual([name for name, _ in program[0]], ["twice", "main"])
        self.assertRaises(UnknownName, check, "main = id []", prelude=False)
        self.assertRaises(UnknownName, check, "f :: Pair a b -> a\nf x = f x\nmain = []", prelude=False)
        self.assertEqual(check("id = 1\nmain = []", prelude=False)[0][0][0], "id")

    def test_the_built_in_types_are_always_there(self):
        text = "f :: Bool -> List Int\nf b = if b then [1] else Nil\nmain = f True"
        for prelude in (True, False):
            self.assertEqual(shown(check(text, prelude=prelude), 100)[0], (("show", 1), ("end",)))

    def test_the_prelude_is_not_part_of_layout(self):
        self.assertEqual(check("   main = []\n   f = 1")[0][-2:], (("main", ("con", 0, ())), ("f", ("num", 1))))

    def test_a_name_of_the_prelude_again(self):
        for name in PRELUDE_NAMES:
            with self.assertRaises(DoubleName) as held:
                check(f"main = []\n{name} = 1")
            self.assertEqual((held.exception.kind, held.exception.name), ("value", name))
        self.assertRaises(DoubleName, check, "data Pair = Two\nmain = []")
        self.assertRaises(DoubleName, check, "data Two = Pair\nmain = []")
        self.assertRaises(DoubleName, check, "data Bool = Yes\nmain = []", prelude=False)
        self.assertEqual(len(check("main = let { id = 1 } in [id]")[0]), 22)

    def test_the_first_error(self):
        for text, error_class in ERRORS:
            for use in (check, schemes):
                for prelude in (True, False):
                    with self.subTest(text):
                        self.assertRaises(error_class, use, text, prelude=prelude)

    def test_places_of_errors(self):
        with self.assertRaises(Unexpected) as held:
            check("main = [\n  1 2 )")
        self.assertEqual((held.exception.row, held.exception.column), (2, 7))

    def test_prelude_is_passed_by_keyword(self):
        self.assertRaises(TypeError, check, TEXT, False)
        self.assertRaises(TypeError, schemes, TEXT, False)

    def test_every_use_of_the_prelude(self):
        text = ("main = append [sum (take 3 (iterate (\\x -> x * 2) 1)), length (drop 1 (upto 1 5)), "
                "foldr (\\x y -> x - y) 0 [5, 2], fst (Pair 7 []), snd (Pair [] 8), head (tail [1, 9])] "
                "(append (zipWith (\\x y -> x + y) [1, 2, 3] [10, 20]) (append (filter (\\x -> not (x < 2)) [1, 2, 3]) "
                "(map (compose id (const 4)) (if and True (or False True) then [1] else []))))")
        events, state, _ = shown(check(text), 10000)
        self.assertEqual([n for _, n in events[:-1]], [7, 4, 3, 7, 8, 9, 11, 22, 2, 3, 4])
        self.assertEqual(state, ("end",))


class SchemesTest(unittest.TestCase):
    def test_with_the_prelude(self):
        found = schemes(TEXT)
        self.assertEqual(found, infer_program(with_prelude(parse(TEXT))))
        self.assertEqual(found, schemes(TEXT, prelude=True))
        self.assertEqual([name for name, _ in found], sorted([*PRELUDE_NAMES, "twice", "main"]))

    def test_without_the_prelude(self):
        found = schemes(TEXT, prelude=False)
        self.assertEqual(found, infer_program(parse(TEXT)))
        self.assertEqual([name for name, _ in found], ["main", "twice"])
        self.assertRaises(UnknownName, schemes, "main = id []", prelude=False)

    def test_the_schemes_of_the_prelude_are_its_signatures(self):
        found = dict(schemes("main = []"))
        for declaration in with_prelude(()):
            if declaration[0] == "sign":
                self.assertEqual(found[declaration[1]][1:], (declaration[2], declaration[3]))


if __name__ == "__main__":
    unittest.main()

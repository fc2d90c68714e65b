"""Texts of programs of every kind, each with the beginning of what it shows, or the end: point 0.3."""

SHORT = (
    ("main = []", [("end", ())]),
    ("main = [1, 2, 3]", [(1, ()), (2, ()), (3, ()), ("end", ())]),
    ("main = 1 : 2 : []", [(1, ()), (2, ()), ("end", ())]),
    ("main = note 5 [note 4 1, note 3 2]", [(1, (4, 5)), (2, (3, 4, 5)), ("end", (3, 4, 5))]),
    ("main = [1, note 9 2, note 9 3, 4]", [(1, ()), (2, (9,)), (3, (9,)), (4, (9,)), ("end", (9,))]),
    ("main = 7 : (note 2 (8 : (note 1 [])))", [(7, ()), (8, (2,)), ("end", (1, 2))]),
    ("main = [1 + 2 * 3, 7 div 2, 0 - 7 div 2, (0 - 7) mod 2, 7 mod (0 - 2)]",
     [(7, ()), (3, ()), (-3, ()), (1, ()), (-1, ()), ("end", ())]),
    ("main = [if 1 < 2 then 10 else 20, if 2 <= 1 then 10 else 20, if 3 == 3 then 1 else 0]",
     [(10, ()), (20, ()), (1, ()), ("end", ())]),
    ("main = [case 3 of { 1 -> 10 ; 3 -> 30 ; n -> n }, case 4 of { 1 -> 10 ; n -> n + 1 }]",
     [(30, ()), (5, ()), ("end", ())]),
    ("main = case [1, 2] of\n  [] -> [0]\n  x : rest -> [x, x]", [(1, ()), (1, ()), ("end", ())]),
    # Numbers for ever.
    ("main = 1 : map (\\x -> x + x) main", [(1, ()), (2, ()), (4, ()), (8, ()), (16, ())]),
    ("main = from 3\nfrom n = n : from (n + 1)", [(3, ()), (4, ()), (5, ()), (6, ())]),
    ("main = let xs = 1 : 2 : xs in xs", [(1, ()), (2, ()), (1, ()), (2, ()), (1, ())]),
    ("main = let { xs = 1 : ys ; ys = note 4 (2 : xs) } in xs", [(1, ()), (2, (4,)), (1, (4,)), (2, (4,))]),
    ("fibs = 0 : 1 : add fibs (tail fibs)\nadd xs ys = case xs of\n  [] -> []\n  x : more -> case ys of\n    [] -> []\n"
     "    y : rest -> (x + y) : add more rest\nmain = fibs",
     [(0, ()), (1, ()), (1, ()), (2, ()), (3, ()), (5, ()), (8, ()), (13, ())]),
    ("sieve xs = case xs of { p : rest -> p : sieve (filter (\\n -> if n mod p == 0 then False else True) rest) }\n"
     "from n = n : from (n + 1)\nmain = sieve (from 2)", [(2, ()), (3, ()), (5, ()), (7, ()), (11, ())]),
    # Faults.
    ("main = [1, 1 div 0]", [(1, ()), ("division by zero", ())]),
    ("main = [1, 5 mod (2 - 2), 3]", [(1, ()), ("division by zero", ())]),
    ("main = [note 1 (case 2 of { 1 -> 1 })]", [("no match", (1,))]),
    ("main = 3 : (case [1] of { [] -> [] })", [(3, ()), ("no match", ())]),
    ("main = [1000000000000 * 1000, 1000000000000 * 1000 + 1]", [(10 ** 15, ()), ("overflow", ())]),
    ("main = [0 - 1000000000000 * 1000, 0 - 1000000000000 * 1000 - 1]", [(-10 ** 15, ()), ("overflow", ())]),
    ("big n = if n == 0 then 2 else big (n - 1) * big (n - 1)\nmain = [big 3, big 6]", [(256, ()), ("overflow", ())]),
    # What is not needed is not worked out.
    ("main = let bad = 1 div 0 in [1]", [(1, ()), ("end", ())]),
    ("first x y = x\nloop = loop\nmain = [first 1 loop, first 2 (1 div 0), first (note 3 3) (note 4 4)]",
     [(1, ()), (2, ()), (3, (3,)), ("end", (3,))]),
    ("main = case [1 div 0, 2] of { x : rest -> rest }", [(2, ()), ("end", ())]),
    ("data P a b = P a b\nsecond p = case p of { P a b -> b }\nmain = [second (P (note 1 0) (note 2 5))]",
     [(5, (2,)), ("end", (2,))]),
    # Things that are shared.
    ("main = let x = note 5 (1 + 1) in [x, x, x + x]", [(2, (5,)), (2, (5,)), (4, (5,)), ("end", (5,))]),
    ("twice f x = f (f x)\nmain = [twice (\\n -> note 6 (n * n)) 3]", [(81, (6,)), ("end", (6,))]),
    ("main = let k = note 8 10 in map (\\x -> x + k) [1, 2, 3]", [(11, (8,)), (12, (8,)), (13, (8,)), ("end", (8,))]),
    ("x = note 3 7\nmain = [x, x, x]", [(7, (3,)), (7, (3,)), (7, (3,)), ("end", (3,))]),
    ("same x = [x, x]\nmain = same (note 2 (sum [1, 2, 3]))", [(6, (2,)), (6, (2,)), ("end", (2,))]),
    ("main = let xs = map (\\n -> n * n) [note 1 1, note 2 2] in append xs xs",
     [(1, (1,)), (4, (1, 2)), (1, (1, 2)), (4, (1, 2)), ("end", (1, 2))]),
    ("main = let f = note 1 (\\x -> x + 1) in [f 1, f 2]", [(2, (1,)), (3, (1,)), ("end", (1,))]),
    # Classes and instances.
    ("class Size a where { size :: a -> Int ; some :: a }\ninstance Size Int where { size n = n ; some = 5 }\n"
     "instance Size a => Size (List a) where { size xs = sum (map size xs) ; some = [some, some] }\n"
     "total :: Size a => a -> Int\ntotal x = size x + size [x, x]\nmain = [total 3, total [1, 2], size (append some [[1]])]",
     [(9, ()), (9, ()), (21, ()), ("end", ())]),
    ("class Eq a where { same :: a -> a -> Bool }\ninstance Eq Int where { same a b = a == b }\n"
     "instance Eq a => Eq (List a) where { same xs ys = case xs of\n    [] -> case ys of { [] -> True ; y : more -> False }\n"
     "    x : rest -> case ys of { [] -> False ; y : more -> if same x y then same rest more else False } }\n"
     "number b = if b then 1 else 0\nmain = [number (same [[1], [2, 3]] [[1], [2, 3]]), number (same [[1]] [[2]])]",
     [(1, ()), (0, ()), ("end", ())]),
    # Functions of functions, and functions that are passed on with some of their arguments.
    ("three a b c = a * 100 + b * 10 + c\nmain = map (three 1 2) [3, 4]", [(123, ()), (124, ()), ("end", ())]),
    ("main = [id id id (id 4), (\\f -> f (f 2)) (\\x -> x * 3)]", [(4, ()), (18, ()), ("end", ())]),
    ("church n = if n == 0 then \\f x -> x else \\f x -> f (church (n - 1) f x)\n"
     "main = [church 5 (compose (\\x -> x + 1) (\\x -> x * 2)) 1]", [(63, ()), ("end", ())]),
    ("even n = if n == 0 then True else odd (n - 1)\nodd n = if n == 0 then False else even (n - 1)\n"
     "main = [if even 40 then 1 else 0]", [(1, ()), ("end", ())]),
    ("data Tree a = Leaf | Node (Tree a) a (Tree a)\ninsert n t = case t of\n  Leaf -> Node Leaf n Leaf\n"
     "  Node l x r -> if n < x then Node (insert n l) x r else Node l x (insert n r)\n"
     "flat t = case t of { Leaf -> [] ; Node l x r -> append (flat l) (x : flat r) }\n"
     "main = flat (foldr insert Leaf [5, 2, 8, 1, 9, 3])",
     [(1, ()), (2, ()), (3, ()), (5, ()), (8, ()), (9, ()), ("end", ())]),
    ("count n acc = if n == 0 then acc else count (n - 1) (acc + n)\nmain = [count 8 0]", [(36, ()), ("end", ())]),
)

# Programs that need themselves: the meaning goes on for ever where the machine finds a loop.
LOOPS = (
    ("main = main", []),
    ("main = let x = x + 1 in [1, x]", [(1, ())]),
    ("main = note 4 (1 : (note 5 (tail main)))", [(1, (4,))]),
    ("main = let { x = y ; y = note 2 x } in [3, x]", [(3, ())]),
    ("x = case x of { 0 -> 1 ; n -> n }\nmain = [2, x]", [(2, ())]),
)

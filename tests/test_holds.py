"""What holds everywhere: points 0.1 to 0.5."""

import inspect
import unittest

from needonce import (apply_table, check, checker, code, collect, core, elaborate, errors, groups, heap, image, infer,
                      layout, lift, machine, meaning, normal, parser, prelude, printing, run, scopes, simplify, strict,
                      tokens, types, unify)
from tests.making import Maker

# The interface: the names that stand in each file.
INTERFACE = (
    (tokens, ("tokens",), ("KEYWORDS",)),
    (layout, ("layout",), ()),
    (parser, ("parse", "parse_expr", "parse_kind"), ()),
    (printing, ("print_program", "print_declaration", "print_expr", "print_kind"), ()),
    (prelude, ("with_prelude",), ("PRELUDE",)),
    (scopes, ("check_scopes",), ("BUILT_IN",)),
    (groups, ("free_values", "binding_groups"), ()),
    (types, ("list_of", "function", "variables_of", "metas_of", "replace_names", "variable_name", "instance_of"),
     ("INT", "BOOL")),
    (infer, ("infer_program",), ()), (elaborate, ("elaborate",), ()), (checker, ("check", "schemes"), ()),
    (core, ("is_term", "free_names", "size", "program_size", "arity", "check_program", "bound_names", "is_apart"), ()),
    (meaning, ("head_of", "shown"), ("FAULTS",)), (strict, ("lead", "holds_table", "make_table"), ()),
    (apply_table, ("apply_table",), ()), (simplify, ("rename_apart", "simplify"), ()),
    (lift, ("lift", "core_of_lifted"), ()), (normal, ("normal_form", "is_normal", "core_of"), ()),
    (code, ("compile_program",), ()), (check, ("check_code",), ()), (image, ("write_image", "read_image"), ()),
    (heap, ("size_of",), ()), (collect, ("roots", "collect_cells"), ()),
    (run, ("run_code", "pages", "compile_text", "run_text"), ()),
)
CLASSES = (
    (unify, "Unifier", ("fresh", "resolve", "unify"), ()),
    (heap, "Heap", ("make", "cell", "put", "addresses", "fits", "renew"), ("room", "used")),
    (machine, "Machine", ("step", "collect", "stopped"), ("heap", "stack", "now", "events", "entered", "collections")),
)

NOTHING = (((0, ("con", 0, ())),), 0)

TEXT = """
data Tree a = Leaf | Node (Tree a) a (Tree a)
class Shown a where { shown :: a -> List Int ; size :: a -> Int }
instance Shown Int where { shown n = [n] ; size n = 1 }
instance Shown a => Shown (Tree a) where
  shown t = case t of
    Leaf -> []
    Node l x r -> append (shown l) (append (shown x) (shown r))
  size t = sum (map (\\x -> 1) (shown t))
insert :: Int -> Tree Int -> Tree Int
insert n t = case t of
  Leaf -> Node Leaf n Leaf
  Node l x r -> if n < x then Node (insert n l) x r
                else Node l x (insert n r)
main = let t = foldr insert Leaf [3, 1, 2]
           more = note 7 (shown t)
       in size t : more
"""


def only_values(thing):
    """Whether a value consists of what point 0.4 lists."""
    if type(thing) is tuple:
        return all(only_values(part) for part in thing)
    return thing is None or type(thing) in (int, str)


class InterfaceTest(unittest.TestCase):
    def test_functions_are_defined_in_their_files(self):
        for module, functions, _ in INTERFACE:
            for name in functions:
                with self.subTest(name):
                    self.assertTrue(inspect.isfunction(getattr(module, name)))
                    self.assertEqual(getattr(module, name).__module__, module.__name__)

    def test_classes_are_defined_in_their_files(self):
        for module, name, methods, _ in CLASSES:
            self.assertEqual(getattr(module, name).__module__, module.__name__)
            for method in methods:
                self.assertIn(method, vars(getattr(module, name)))

    def test_attributes_are_set_at_the_beginning(self):
        made = {"Unifier": unify.Unifier(), "Heap": heap.Heap(5), "Machine": machine.Machine(NOTHING, 5)}
        for _, name, _, attributes in CLASSES:
            for attribute in attributes:
                self.assertIn(attribute, vars(made[name]))

    def test_values_exist(self):
        for module, _, names in INTERFACE:
            for name in names:
                self.assertTrue(only_values(getattr(module, name)), name)

    def test_the_way_of_a_text(self):
        program = prelude.with_prelude(parser.parse(TEXT))
        self.assertIsNone(scopes.check_scopes(program))
        self.assertEqual(parser.parse(printing.print_program(program)), program)
        own = tuple(declaration for declaration in parser.parse(TEXT) if declaration[0] == "define")
        self.assertEqual(groups.binding_groups(own, ("insert",)), (("insert",), ("main",)))

    def test_the_way_of_a_program(self):
        """From a text to its core, made simpler and strict, and to its code: it shows the same all the way."""
        whole = checker.check(TEXT)
        simple = simplify.simplify(whole)
        table = strict.make_table(simple)
        new = apply_table.apply_table(simple, table)
        for each in (whole, simple, new):
            self.assertIsNone(core.check_program(each))
            events, state, _ = meaning.shown(each, 10000)
            self.assertEqual(events, (("show", 3), ("note", 7), ("show", 1), ("show", 2), ("show", 3), ("end",)))
            self.assertEqual(state, ("end",))
        self.assertTrue(strict.holds_table(simple, table))
        self.assertIn(("insert", (1,)), table)
        lifted = lift.lift(new)
        form = normal.normal_form(lifted)
        self.assertTrue(normal.is_normal(form))
        for each in (lift.core_of_lifted(lifted), normal.core_of(form)):
            self.assertIsNone(core.check_program(each))
            self.assertEqual(run.pages(meaning.shown(each, 10000)[0]), run.pages(events))
        functions, main = form
        whole = code.compile_program(functions, main)
        self.assertIsNone(check.check_code(whole))
        self.assertEqual(image.read_image(image.write_image(whole)), whole)
        self.assertEqual(run.compile_text(TEXT), whole)
        report = run.run_code(whole, 10000, [], 10000)
        self.assertEqual((run.pages(report[0]), report[1]), (run.pages(events), ("end",)))
        self.assertEqual(run.run_text(TEXT, 10000, [], 10000), report)


class ValuesTest(unittest.TestCase):
    def test_trees_are_tuples_of_integers_and_strings(self):
        self.assertTrue(only_values(parser.parse(TEXT)))
        self.assertTrue(only_values(parser.parse_expr("\\x -> [note 1 (let { } in 2)]")))
        self.assertTrue(only_values(parser.parse_kind("List (a -> Int)")))
        for seed in range(200):
            self.assertTrue(only_values(parser.parse(printing.print_program(Maker(seed).program(3)))))

    def test_core_programs_are_tuples_of_integers_strings_and_none(self):
        whole = checker.check(TEXT)
        simple = simplify.simplify(whole)
        table = strict.make_table(simple)
        for value in (whole, simple, table, apply_table.apply_table(simple, table), checker.schemes(TEXT),
                      meaning.shown(whole, 300), meaning.head_of(whole, ("var", "main"), 50),
                      strict.lead(simple, table, ("var", "x"))[0]):
            self.assertTrue(only_values(value))
        self.assertIs(type(strict.lead(simple, table, ("var", "x"))[1]), bool)
        self.assertIs(type(core.free_names(("var", "x"))), list)
        self.assertIs(type(core.bound_names(("var", "x"))), list)

    def test_code_programs_and_what_they_show(self):
        lifted = lift.lift(simplify.simplify(checker.check(TEXT)))
        form = normal.normal_form(lifted)
        whole = run.compile_text(TEXT)
        for value in (lifted, lift.core_of_lifted(lifted), form, normal.core_of(form), whole,
                      image.read_image(image.write_image(whole)), run.run_code(whole, 100, [3], 900)):
            self.assertTrue(only_values(value))
        self.assertTrue(only_values(tuple(image.write_image(whole))))
        self.assertTrue(only_values(tuple(run.pages(run.run_code(whole, 100, [], 900)[0]))))
        one = machine.Machine(whole, 100)
        for _ in range(50):
            one.step()
            cells = tuple(one.heap.cell(address) for address in one.heap.addresses())
            self.assertTrue(only_values((*one.stack, one.now, *one.events, *one.entered, *cells, one.heap.used)))
        self.assertIs(type(normal.is_normal(form)), bool)
        self.assertIs(type(one.stopped), bool)
        self.assertIs(type(one.heap.fits(3)), bool)

    def test_tokens_are_tuples_of_integers_and_strings(self):
        for row in (tokens.tokens(TEXT), layout.layout(tokens.tokens(TEXT))):
            self.assertIs(type(row), list)
            for token in row:
                self.assertTrue(only_values(token))
                self.assertEqual([type(part) for part in token], [str, str, int, int])

    def test_texts_are_strings(self):
        self.assertIs(type(prelude.PRELUDE), str)
        self.assertIs(type(printing.print_program(())), str)


class ChangesTest(unittest.TestCase):
    def test_the_same_again(self):
        for _ in range(2):
            row = tokens.tokens(TEXT)
            arranged = layout.layout(row)
            self.assertEqual(parser.parse(TEXT), parser.parse(TEXT))
            arranged.clear()
            row.clear()
            self.assertGreater(len(layout.layout(tokens.tokens(TEXT))), 200)

    def test_arguments_stay(self):
        row = tokens.tokens(TEXT)
        layout.layout(row)
        self.assertEqual(row, tokens.tokens(TEXT))
        types_of_names = {"a": types.INT, "b": ("name", "a")}
        types.replace_names(parser.parse_kind("a -> b -> c"), types_of_names)
        self.assertEqual(types_of_names, {"a": types.INT, "b": ("name", "a")})

    def test_errors_leave_nothing_behind(self):
        for text in ("f = (", "f = %", "f = 01"):
            with self.assertRaises(errors.TextError):
                parser.parse(text)
            self.assertEqual(len(parser.parse(TEXT)), 7)
        with self.assertRaises(errors.ScopeError):
            scopes.check_scopes(parser.parse("main = x"))
        self.assertIsNone(scopes.check_scopes(parser.parse("main = main")))


if __name__ == "__main__":
    unittest.main()

"""Collections: points 9.12 and 9.13."""

import random
import unittest

from needonce.collect import collect_cells, roots
from tests.slow_machine import slow_collect_cells, slow_roots

BODY = ("give", ("slot", 0))
ALTERNATIVES = ((1, 2, BODY),)
END = ("end",)


def con(*words):
    return ("con", 1, words)


def later(serial, *words):
    return ("later", BODY, words, serial)


class RootsTest(unittest.TestCase):
    def test_the_global_cells(self):
        self.assertEqual(roots(0, [], END), [])
        self.assertEqual(roots(1, [], END), [0])
        self.assertEqual(roots(4, [], END), [0, 2, 4, 6])
        self.assertIs(type(roots(2, [], END)), list)

    def test_each_kind_of_frame(self):
        for frame, words in ((("show",), []), (("head", 8), [8]), (("head", 9), [9]), (("update", 4), [8]),
                             (("apply", (5, 6, 7)), [5, 6, 7]), (("case", ALTERNATIVES, BODY, (4, 3)), [4, 3]),
                             (("case", ALTERNATIVES, None, ()), []), (("pick", ((3, BODY),), None, (8, 8)), [8, 8]),
                             (("seq", BODY, (2, 1)), [2, 1]), (("right", "+", ("slot", 0), (6, 2)), [6, 2]),
                             (("prim", "+", 12), []), (("prim", "-", 7), [])):
            self.assertEqual(roots(0, [frame], END), words)
            self.assertEqual(roots(2, [("show",), frame, ("head", 1)], END), [0, 2, *words, 1])

    def test_what_the_machine_does(self):
        for now, words in ((("eval", BODY, (6, 5, 4)), [6, 5, 4]), (("eval", BODY, ()), []), (("value", 6), [6]),
                           (("value", 7), [7]), (("enter", 8), [8]), (("enter", 9), [9]), (END, []),
                           (("fault", "overflow"), []),
                           (("loop",), []), (("full",), []), (("stuck",), [])):
            self.assertEqual(roots(0, [], now), words)
            self.assertEqual(roots(1, [("head", 3)], now), [0, 3, *words])

    def test_the_order(self):
        stack = [("show",), ("head", 20), ("update", 3), ("apply", (8, 1)), ("right", "+", ("number", 5), (2,)),
                 ("prim", "*", 2)]
        self.assertEqual(roots(3, stack, ("eval", BODY, (10, 0))), [0, 2, 4, 20, 6, 8, 1, 2, 10, 0])

    def test_arguments_stay(self):
        stack = [("head", 20), ("apply", (8, 1))]
        found = roots(1, stack, ("value", 4))
        found.clear()
        self.assertEqual(stack, [("head", 20), ("apply", (8, 1))])


class CollectCase(unittest.TestCase):
    def leaves(self, given, expected):
        """given: (cells, number of global cells, stack, now)."""
        cells, many, stack, now = given
        before = repr(given)
        found = collect_cells(cells, many, stack, now)
        self.assertEqual(found, expected)
        self.assertEqual([type(part) for part in found], [type(part) for part in (dict(), 0, [], ())])
        self.assertEqual(repr(given), before)
        self.assertIsNot(found[0], cells)
        self.assertIsNot(found[2], stack)
        self.assertEqual(found, slow_collect_cells(*given))


class LiveTest(CollectCase):
    def test_nothing_to_do(self):
        self.leaves(({}, 0, [], END), ({}, 0, [], END))
        self.leaves(({0: later(0), 1: ("part", 1, ())}, 2, [("show",)], ("enter", 0)),
                    ({0: later(0), 1: ("part", 1, ())}, 2, [("show",)], ("enter", 0)))

    def test_cells_that_cannot_be_reached_are_gone(self):
        cells = {0: con(), 1: con(2, 4), 2: con(2), 3: later(9, 6), 4: con(3)}
        self.leaves((cells, 1, [("show",)], ("enter", 1)), ({0: con()}, 1, [("show",)], ("enter", 1)))
        self.leaves((cells, 1, [("show",)], ("enter", 8)), ({0: con(), 1: con(3)}, 2, [("show",)], ("enter", 2)))
        self.leaves((cells, 1, [("show",)], ("enter", 6)), ({0: con(), 1: later(9, 2)}, 2, [("show",)], ("enter", 2)))
        self.leaves((cells, 1, [("show",)], ("enter", 2)),
                    ({0: con(), 1: con(2, 4), 2: con(2)}, 3, [("show",)], ("enter", 2)))

    def test_global_cells_stay(self):
        self.leaves(({0: con(), 1: later(1), 2: ("part", 2, ()), 3: con()}, 3, [], END),
                    ({0: con(), 1: later(1), 2: ("part", 2, ())}, 3, [], END))
        self.leaves(({0: ("on", 5), 1: ("hole",), 2: con(1)}, 2, [], END), ({0: ("on", 5), 1: ("hole",)}, 2, [], END))

    def test_global_cells_are_roots(self):
        self.leaves(({0: con(6), 1: ("part", 1, (4,)), 2: con(1), 3: con(2)}, 2, [], END),
                    ({0: con(4), 1: ("part", 1, (6,)), 2: con(2), 3: con(1)}, 4, [], END))

    def test_each_kind_of_frame(self):
        cells = {0: con(), 5: con(11), 7: con(13)}
        for frame, new in ((("head", 14), ("head", 2)), (("head", 15), ("head", 15)),
                           (("apply", (3, 14)), ("apply", (3, 2))),
                           (("case", ALTERNATIVES, BODY, (14, 1)), ("case", ALTERNATIVES, BODY, (2, 1))),
                           (("pick", ((4, BODY),), None, (14,)), ("pick", ((4, BODY),), None, (2,))),
                           (("seq", BODY, (14, 14)), ("seq", BODY, (2, 2))),
                           (("right", "-", ("slot", 14), (14,)), ("right", "-", ("slot", 14), (2,)))):
            self.leaves((cells, 1, [("show",), frame], END),
                        ({0: con(), 1: con(13)} if new != frame else {0: con()}, 1 + (new != frame), [("show",), new],
                         END))
        for frame in (("show",), ("prim", "+", 14)):
            self.leaves((cells, 1, [frame], END), ({0: con()}, 1, [frame], END))

    def test_what_the_machine_does(self):
        cells = {0: con(), 5: con(11), 7: con(13)}
        for now, new in ((("eval", BODY, (14, 3)), ("eval", BODY, (2, 3))), (("value", 14), ("value", 2)),
                         (("enter", 14), ("enter", 2))):
            self.leaves((cells, 1, [], now), ({0: con(), 1: con(13)}, 2, [], new))
        for now in (("value", 15), ("enter", 15), ("eval", BODY, ()), END, ("fault", "no match"), ("loop",), ("full",),
                    ("stuck",)):
            self.leaves((cells, 1, [], now), ({0: con()}, 1, [], now))

    def test_each_kind_of_cell(self):
        for cell, new in ((con(14, 3), con(4, 3)), (("part", 7, (14,)), ("part", 7, (4,))),
                          (later(7, 14, 1), later(7, 4, 1)),
                          (("con", 7, ()), ("con", 7, ()))):
            cells = {0: con(), 4: cell, 7: con(5)}
            expected = {0: con(), 1: new} if new == ("con", 7, ()) else {0: con(), 1: new, 2: con(5)}
            self.leaves((cells, 1, [], ("enter", 8)), (expected, len(expected), [], ("enter", 2)))

    def test_update_frames_and_holes(self):
        cells = {0: con(), 3: ("hole",), 4: con(1), 5: ("hole",)}
        self.leaves((cells, 1, [("show",), ("update", 5), ("update", 3)], ("value", 1)),
                    ({0: con(), 1: ("hole",), 2: ("hole",)}, 3, [("show",), ("update", 1), ("update", 2)],
                     ("value", 1)))
        self.leaves((cells, 1, [("update", 5)], ("enter", 10)), ({0: con(), 1: ("hole",)}, 2, [("update", 1)],
                                                                 ("enter", 2)))
        self.leaves((cells, 1, [("update", 0)], ("enter", 3)), ({0: con()}, 1, [("update", 0)], ("enter", 3)))

    def test_circles(self):
        self.leaves(({0: con(), 4: con(8, 12), 6: con(12, 8)}, 1, [], ("enter", 12)),
                    ({0: con(), 1: con(2, 4), 2: con(4, 2)}, 3, [], ("enter", 2)))


class OnTest(CollectCase):
    def test_cells_that_are_left_out(self):
        self.leaves(({0: con(), 1: ("on", 9), 2: ("on", 6), 3: con(4)}, 1, [("head", 2)], ("enter", 4)),
                    ({0: con(), 1: con(2)}, 2, [("head", 9)], ("enter", 2)))
        self.leaves(({0: con(), 1: ("on", 7), 2: con(2, 4, 0)}, 1, [], ("value", 4)),
                    ({0: con(), 1: con(7, 2, 0)}, 2, [], ("value", 2)))

    def test_several_in_a_row(self):
        self.leaves(({0: con(), 1: ("on", 4), 2: ("on", 6), 3: ("on", 8), 4: con(2, 6)}, 1, [("apply", (2, 4, 6, 8))],
                     ("enter", 2)),
                    ({0: con(), 1: con(2, 2)}, 2, [("apply", (2, 2, 2, 2))], ("enter", 2)))
        self.leaves(({0: con(), 1: ("on", 4), 2: ("on", 6), 3: ("on", 1)}, 1, [("seq", BODY, (2, 4, 6))], ("enter", 2)),
                    ({0: con()}, 1, [("seq", BODY, (1, 1, 1))], ("enter", 1)))

    def test_global_ones(self):
        self.leaves(({0: ("on", 6), 1: con(0, 2), 3: con(0)}, 2, [("head", 0)], ("enter", 0)),
                    ({0: ("on", 4), 1: con(4, 2), 2: con(4)}, 3, [("head", 4)], ("enter", 4)))
        self.leaves(({0: ("on", 2), 1: ("on", 5), 2: con(0)}, 2, [("head", 0)], ("enter", 4)),
                    ({0: ("on", 5), 1: ("on", 5), 2: con(5)}, 3, [("head", 5)], ("enter", 4)))
        self.leaves(({0: ("on", 4), 1: con(), 2: ("on", 2)}, 2, [], ("enter", 0)),
                    ({0: ("on", 2), 1: con()}, 2, [], ("enter", 2)))

    def test_in_every_kind_of_cell(self):
        cells = {0: con(), 1: ("on", 9), 2: later(5, 2, 2), 3: ("part", 0, (2, 1)), 4: con(4, 6, 2)}
        self.leaves((cells, 1, [], ("value", 8)),
                    ({0: con(), 1: con(4, 6, 9), 2: later(5, 9, 9), 3: ("part", 0, (9, 1))}, 4, [], ("value", 2)))

    def test_in_every_kind_of_frame(self):
        stack = [("head", 2), ("apply", (2,)), ("case", (), None, (2,)), ("pick", (), None, (2,)), ("seq", BODY, (2,)),
                 ("right", "+", ("slot", 0), (2,))]
        new = [("head", 9), ("apply", (9,)), ("case", (), None, (9,)), ("pick", (), None, (9,)), ("seq", BODY, (9,)),
               ("right", "+", ("slot", 0), (9,))]
        self.leaves(({0: con(), 1: ("on", 9)}, 1, stack, ("eval", BODY, (2, 0))),
                    ({0: con()}, 1, new, ("eval", BODY, (9, 0))))


class OrderTest(CollectCase):
    def test_roots_first(self):
        cells = {0: con(12), 1: con(), 3: con(10), 4: con(), 5: con(), 6: con(), 7: con(16), 8: con()}
        self.leaves((cells, 2, [("show",), ("apply", (14, 6))], ("eval", BODY, (8, 14))),
                    ({0: con(10), 1: con(), 2: con(12), 3: con(14), 4: con(), 5: con(), 6: con(), 7: con()}, 8,
                     [("show",), ("apply", (4, 6))], ("eval", BODY, (8, 4))))

    def test_frames_from_the_bottom_to_the_top(self):
        cells = {0: con(), 1: con(101), 2: con(121), 3: con(103), 4: con(141)}
        self.leaves((cells, 1, [("head", 8), ("head", 2), ("apply", (6,))], ("value", 4)),
                    ({0: con(), 1: con(141), 2: con(101), 3: con(103), 4: con(121)}, 5,
                     [("head", 2), ("head", 4), ("apply", (6,))], ("value", 8)))

    def test_words_of_cells_in_the_order_of_new_addresses(self):
        cells = {0: con(), 1: con(10, 8), 2: con(6), 3: con(103), 4: con(14), 5: con(12), 6: con(161), 7: con(107)}
        self.leaves((cells, 1, [("apply", (4, 2))], ("enter", 1)),
                    ({0: con(), 1: con(6), 2: con(8, 10), 3: con(103), 4: con(12), 5: con(14), 6: con(161),
                      7: con(107)}, 8,
                     [("apply", (2, 4))], ("enter", 1)))

    def test_a_global_on_cell_as_a_root(self):
        """Its word is replaced where it is met first, and that is among the roots."""
        cells = {0: ("on", 6), 1: con(), 2: con(121), 3: con(103)}
        self.leaves((cells, 2, [("head", 4)], ("enter", 2)),
                    ({0: ("on", 4), 1: con(), 2: con(103), 3: con(121)}, 4, [("head", 6)], ("enter", 2)))

    def test_by_chance(self):
        for seed in range(400):
            chance = random.Random(seed)
            many = chance.randrange(1, 4)
            addresses = sorted({*range(many), *[chance.randrange(14) for _ in range(9)]})

            def word():
                return chance.randrange(9) * 2 + 1 if chance.random() < 0.2 else 2 * chance.choice(addresses)

            def words():
                return tuple(word() for _ in range(chance.randrange(4)))

            cells = {}
            for address in addresses:
                above = [2 * each for each in addresses if each > address] + [7]
                cells[address] = chance.choice((("con", 3, words()), ("part", 1, words()),
                                                ("later", BODY, words(), address),
                                                ("hole",), ("on", chance.choice(above)), ("on", chance.choice(above))))
            holes = [address for address in addresses if cells[address] == ("hole",)]
            frames = [("show",), ("head", word()), ("apply", words()), ("case", (), BODY, words()),
                      ("pick", (), None, words()),
                      ("seq", BODY, words()), ("right", "+", ("slot", 0), words()), ("prim", "+", 6)]
            stack = [chance.choice(frames) for _ in range(chance.randrange(4))] + [("update",
                                                                                    address) for address in holes[:1]]
            now = chance.choice((("eval", BODY, words()), ("value", word()), ("enter", word()), ("stuck",)))
            self.assertEqual(roots(many, stack, now), slow_roots(many, stack, now))
            before = repr((cells, stack))
            self.leaves((cells, many, stack, now), slow_collect_cells(cells, many, stack, now))
            self.assertEqual(repr((cells, stack)), before)


if __name__ == "__main__":
    unittest.main()

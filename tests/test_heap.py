"""Words, cells and the heap: points 9.1 to 9.3, and the class Heap."""

import random
import unittest

from needonce.heap import Heap, size_of
from tests.slow_machine import slow_size

BODY = ("give", ("number", 1))


class SizeTest(unittest.TestCase):
    def test_each_kind_of_cell(self):
        for many in range(6):
            words = tuple(range(many))
            self.assertEqual(size_of(("con", 900, words)), 1 + many)
            self.assertEqual(size_of(("part", 900, words)), 1 + many)
            self.assertEqual(size_of(("later", BODY, words, 900)), max(2, 1 + many))
        self.assertEqual(size_of(("hole",)), 2)
        self.assertEqual(size_of(("on", 0)), 2)
        self.assertEqual(size_of(("on", 10 ** 20 + 1)), 2)

    def test_cells_without_words(self):
        self.assertEqual([size_of(cell) for cell in (("con", 5, ()), ("part", 5, ()), ("later", BODY, (), 5))],
                         [1, 1, 2])

    def test_a_cell_does_not_grow(self):
        for many in range(4):
            later = size_of(("later", BODY, (1,) * many, 0))
            self.assertLessEqual(size_of(("on", 1)), size_of(("hole",)))
            self.assertLessEqual(size_of(("hole",)), later)


class HeapTest(unittest.TestCase):
    def test_an_empty_heap(self):
        heap = Heap(17)
        self.assertEqual((heap.room, heap.used, heap.addresses()), (17, 0, []))
        self.assertEqual(Heap(0).room, 0)

    def test_make_and_cell(self):
        heap = Heap(100)
        cells = [("con", 1, (1, 2)), ("hole",), ("later", BODY, (), 0), ("part", 0, (0,) * 5)]
        self.assertEqual([heap.make(cell) for cell in cells], [0, 1, 2, 3])
        self.assertEqual([heap.cell(address) for address in range(4)], cells)
        self.assertEqual(heap.addresses(), [0, 1, 2, 3])
        self.assertEqual(heap.used, 3 + 2 + 2 + 6)
        self.assertEqual(heap.room, 100)

    def test_the_room_does_not_limit_make(self):
        heap = Heap(1)
        self.assertEqual([heap.make(("con", 0, (1, 1))) for _ in range(3)], [0, 1, 2])
        self.assertEqual(heap.used, 9)

    def test_put(self):
        heap = Heap(100)
        heap.make(("con", 0, (1, 1)))
        heap.make(("con", 0, ()))
        heap.put(0, ("con", 1, (1, 1, 1, 1)))
        self.assertEqual((heap.used, heap.cell(0), heap.cell(1)), (6, ("con", 1, (1, 1, 1, 1)), ("con", 0, ())))
        heap.put(1, ("hole",))
        self.assertEqual(heap.used, 7)
        heap.put(0, ("on", 3))
        self.assertEqual((heap.used, heap.cell(0), heap.cell(1)), (4, ("on", 3), ("hole",)))
        self.assertEqual(heap.addresses(), [0, 1])
        self.assertEqual(heap.make(("hole",)), 2)

    def test_fits_at_the_limit(self):
        heap = Heap(10)
        self.assertIs(heap.fits(10), True)
        self.assertIs(heap.fits(11), False)
        heap.make(("con", 0, (1, 1, 1)))
        self.assertIs(heap.fits(6), True)
        self.assertIs(heap.fits(7), False)
        self.assertIs(heap.fits(0), True)
        heap.make(("con", 0, (1,) * 5))
        self.assertIs(heap.fits(0), True)
        self.assertIs(heap.fits(1), False)
        heap.make(("con", 0, ()))
        self.assertIs(heap.fits(0), False)

    def test_renew(self):
        heap = Heap(100)
        for _ in range(5):
            heap.make(("con", 0, (1, 1)))
        heap.renew({0: ("con", 3, ()), 2: ("part", 1, (1,))}, 3)
        self.assertEqual((heap.addresses(), heap.used, heap.room), ([0, 2], 3, 100))
        self.assertEqual((heap.cell(0), heap.cell(2)), (("con", 3, ()), ("part", 1, (1,))))
        self.assertEqual(heap.make(("hole",)), 3)
        self.assertEqual((heap.addresses(), heap.used), ([0, 2, 3], 5))

    def test_new_addresses_after_gaps(self):
        heap = Heap(100)
        heap.renew({7: ("hole",), 3: ("hole",)}, 12)
        self.assertEqual(heap.addresses(), [3, 7])
        self.assertEqual([heap.make(("hole",)), heap.make(("hole",))], [12, 13])
        self.assertEqual(heap.addresses(), [3, 7, 12, 13])
        heap.renew({}, 0)
        self.assertEqual((heap.addresses(), heap.used, heap.make(("hole",))), ([], 0, 0))

    def test_addresses_ascend(self):
        heap = Heap(9)
        heap.renew({11: ("hole",), 2: ("hole",), 100: ("hole",), 9: ("hole",)}, 101)
        self.assertEqual(heap.addresses(), [2, 9, 11, 100])

    def test_later_changes_have_no_effect(self):
        heap = Heap(100)
        heap.make(("hole",))
        heap.addresses().append(5)
        heap.addresses().clear()
        self.assertEqual(heap.addresses(), [0])
        cells = {0: ("con", 0, ()), 1: ("hole",)}
        heap.renew(cells, 2)
        cells[5] = ("hole",)
        cells[0] = ("hole",)
        self.assertEqual((heap.addresses(), heap.cell(0), heap.used), ([0, 1], ("con", 0, ()), 3))
        heap.make(("hole",))
        heap.put(1, ("con", 0, ()))
        self.assertEqual(cells, {0: ("hole",), 1: ("hole",), 5: ("hole",)})

    def test_heaps_are_apart(self):
        one, other = Heap(5), Heap(6)
        one.make(("hole",))
        self.assertEqual((other.addresses(), other.used, other.make(("con", 0, ()))), ([], 0, 0))
        self.assertEqual((one.used, other.used), (2, 1))

    def test_by_chance(self):
        for seed in range(50):
            chance = random.Random(seed)
            heap, cells, after = Heap(40), {}, 0
            for _ in range(60):
                cell = chance.choice((("con", 1, (1,) * chance.randrange(5)), ("part", 1, (1,) * chance.randrange(5)),
                                      ("later", BODY, (1,) * chance.randrange(5), 3), ("hole",), ("on", 4)))
                how = chance.randrange(5)
                if how == 0 and cells:
                    address = chance.choice(list(cells))
                    heap.put(address, cell)
                    cells[address] = cell
                elif how == 1:
                    cells = {address: each for address, each in cells.items() if chance.random() < 0.5}
                    after = max(cells, default=-1) + chance.randrange(1, 4)
                    heap.renew(cells, after)
                    cells = dict(cells)
                else:
                    self.assertEqual(heap.make(cell), after)
                    cells[after] = cell
                    after += 1
                used = sum(map(slow_size, cells.values()))
                self.assertEqual((heap.addresses(), heap.used, heap.room), (sorted(cells), used, 40))
                self.assertTrue(all(heap.cell(address) == each for address, each in cells.items()))
                self.assertEqual([heap.fits(size) for size in range(42)], [used + size <= 40 for size in range(42)])


if __name__ == "__main__":
    unittest.main()

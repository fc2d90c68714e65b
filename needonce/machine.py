"""The machine: it works code out, step by step, on a heap with a room."""

from needonce.collect import collect_cells
from needonce.entering import enter
from needonce.evaluating import evaluate, size_to_evaluate
from needonce.heap import Heap
from needonce.meeting import meet, size_to_meet

STOPPED = ("end", "fault", "loop", "full", "stuck")


class Machine:
    """A machine with its code, a heap, a stack, what it does now, and its events."""

    def __init__(self, program, room):
        functions, main = program
        self.functions = functions
        self.heap = Heap(room)
        for index, (arity, body) in enumerate(functions):
            self.heap.make(("later", body, (), index) if arity == 0 else ("part", index, ()))
        self.next_serial = len(functions)
        self.stack = [("show",)]
        self.now = ("enter", 2 * main)
        self.events = []
        self.entered = []
        self.collections = 0

    @property
    def stopped(self):
        """Whether the machine does no steps any more."""
        return self.now[0] in STOPPED

    def step(self):
        """Does one step, if the machine has not stopped."""
        if self.stopped:
            return
        if not self.has_room(size_needed(self)):
            self.now = ("full",)
        elif self.now[0] == "enter":
            self.now = enter(self, self.now[1])
        elif self.now[0] == "eval":
            self.now = evaluate(self, self.now[1], self.now[2])
        else:
            self.now = meet(self, self.stack.pop(), self.now[1])

    def collect(self):
        """A collection takes place, if the machine has not stopped."""
        if self.stopped:
            return
        many = len(self.functions)
        cells, next_address, self.stack, self.now = collect_cells(self.heap.cells, many, self.stack, self.now)
        self.heap.renew(cells, next_address)
        self.collections += 1

    def has_room(self, size):
        """Tells whether there is room for a step that needs this size, after a collection if need be."""
        if size == 0 or self.heap.fits(size):
            return True
        self.collect()
        return self.heap.fits(size)


def size_needed(machine):
    """The size that the next step of a machine needs."""
    if machine.now[0] == "eval":
        return size_to_evaluate(machine.now[1])
    if machine.now[0] == "value":
        return size_to_meet(machine, machine.stack[-1], machine.now[1])
    return 0

"""The heap of the machine: cells under addresses, with a room."""

LEAST_SIZE_OF_DELAYED = 2


def size_of(cell):
    """Returns the size of a cell."""
    word = cell[0]
    if word in ("con", "part"):
        return 1 + len(cell[2])
    if word == "later":
        return max(LEAST_SIZE_OF_DELAYED, 1 + len(cell[2]))
    return LEAST_SIZE_OF_DELAYED


class Heap:
    """Cells under addresses. A new address is greater than all that were given since the last collection."""

    def __init__(self, room):
        self.room = room
        self.used = 0
        self.cells = {}
        self.next_address = 0

    def make(self, cell):
        """Puts a new cell, and returns its address."""
        address = self.next_address
        self.next_address += 1
        self.cells[address] = cell
        self.used += size_of(cell)
        return address

    def cell(self, address):
        """Returns the cell under an address."""
        return self.cells[address]

    def put(self, address, cell):
        """Replaces a cell."""
        self.used += size_of(cell) - size_of(self.cells[address])
        self.cells[address] = cell

    def addresses(self):
        """Returns the list of the addresses, ascending."""
        return sorted(self.cells)

    def fits(self, size):
        """Tells whether there is room for this size, too."""
        return self.used + size <= self.room

    def renew(self, cells, next_address):
        """From now on the heap holds exactly the cells of this dict, and the next new address is this one."""
        self.cells = dict(cells)
        self.next_address = next_address
        self.used = sum([size_of(cell) for cell in list(cells.values())])

"""Entering a word: its value is needed."""


def enter(machine, word):
    """Enters a word. Returns what the machine does next."""
    if word % 2 != 0:
        return ("value", word)
    address = word // 2
    cell = machine.heap.cell(address)
    if cell[0] in ("con", "part"):
        return ("value", word)
    if cell[0] == "on":
        return ("enter", cell[1])
    if cell[0] == "hole":
        return ("loop",)
    _, body, words, serial = cell
    machine.heap.put(address, ("hole",))
    machine.entered.append(serial)
    machine.stack.append(("update", address))
    return ("eval", body, words)

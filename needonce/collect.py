"""Collections: what can be reached from the roots stays, and gets new addresses."""

# Where the words are in a cell, a frame, or what the machine does: how they stand there, and at which index. What is
# not listed has none.
PLACES = {"con": ("words", 2), "part": ("words", 2), "later": ("words", 2), "on": ("word", 1),
          "head": ("word", 1), "update": ("address", 1), "apply": ("words", 1), "case": ("words", 3),
          "pick": ("words", 3), "seq": ("words", 2), "right": ("words", 3),
          "eval": ("words", 2), "value": ("word", 1), "enter": ("word", 1)}
NO_PLACE = ("none", 0)


def roots(global_count, stack, now):
    """Returns the list of the words from which everything that is live can be reached, in order."""
    words = [2 * address for address in range(global_count)]
    for thing in [*stack, now]:
        words.extend(_words_in(thing))
    return words


def collect_cells(cells, global_count, stack, now):
    """Returns what a collection leaves: the cells, a dict, the next address, the stack, and what the machine does."""
    collection = Collection(cells, global_count)
    for word in roots(global_count, stack, now):
        collection.new_word(word)
    new_cells = {}
    while len(new_cells) < len(collection.met):
        address = len(new_cells)
        new_cells[address] = collection.renewed(cells[collection.met[address]])
    new_stack = [collection.renewed(frame) for frame in stack]
    return (new_cells, len(new_cells), new_stack, collection.renewed(now))


class Collection:
    """The cells that a collection has met so far, and their new addresses."""

    def __init__(self, cells, global_count):
        self.cells = cells
        # The old addresses, in the order of the new ones.
        self.met = list(range(global_count))
        self.new_addresses = {address: address for address in self.met}

    def new_word(self, word):
        """Returns what a word becomes. The cell to which it leads is met, if it is one."""
        while word % 2 == 0 and self.cells[word // 2][0] == "on":
            _, word = self.cells[word // 2]
        if word % 2 != 0:
            return word
        address = word // 2
        if address not in self.new_addresses:
            self.new_addresses[address] = len(self.met)
            self.met.append(address)
        return 2 * self.new_addresses[address]

    def renewed(self, thing):
        """Returns what a cell, a frame, or what the machine does becomes. The cells to which it leads are met."""
        words = [self.new_word(word) for word in _words_in(thing)]
        kind, index = PLACES.get(thing[0], NO_PLACE)
        if kind == "none":
            return thing
        if kind == "words":
            new = tuple(words)
        else:
            new = words[0] if kind == "word" else words[0] // 2
        return (*thing[:index], new, *thing[index + 1:])


def _words_in(thing):
    """The words of a cell, a frame, or what the machine does."""
    kind, index = PLACES.get(thing[0], NO_PLACE)
    if kind == "words":
        return list(thing[index])
    if kind == "none":
        return []
    return [thing[index] if kind == "word" else 2 * thing[index]]

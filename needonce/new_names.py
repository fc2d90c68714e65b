"""Names that a program does not use."""

from needonce.core import bound_names


class NewNames:
    """It hands out names that a sound program does not use, each one once."""

    def __init__(self, program):
        definitions, _ = program
        self.used = {}
        self.made = 0
        for name, term in definitions:
            for used in [name, *bound_names(term)]:
                self.used[used] = True

    def make(self):
        """Returns a new name."""
        self.made += 1
        while f"n.{self.made}" in self.used:
            self.made += 1
        return f"n.{self.made}"

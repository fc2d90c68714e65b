"""Names that a program does not use."""

from needonce.parts import names_of, parts_of


class NewNames:
    """It hands out names that a program does not use, each one once."""

    def __init__(self, program):
        definitions, _ = program
        self.used = {}
        self.made = 0
        for name, term in definitions:
            self.used[name] = True
            self.take_in(term)

    def take_in(self, term):
        """The names that stand in a term are used, free or bound."""
        todo = [term]
        while todo:
            part = todo.pop()
            if part[0] == "var":
                self.used[part[1]] = True
            for name in names_of(part):
                self.used[name] = True
            todo.extend(parts_of(part))

    def make(self):
        """Returns a new name."""
        self.made += 1
        while f"n.{self.made}" in self.used:
            self.made += 1
        return f"n.{self.made}"

"""What metas stand for."""

from needonce.errors import CannotUnify
from needonce.types import alike, kind_parts, replace_leaves


class Unifier:
    """It hands out metas, and knows what some of them stand for."""

    def __init__(self):
        self.made = 0
        # For the numbers of some metas the types that they stand for, in which there may be other such metas.
        self.known = {}

    def fresh(self):
        """Returns a meta that was not there before."""
        number = self.made
        self.made += 1
        return ("meta", number)

    def resolve(self, kind):
        """Returns the type with everything in place that is known of its metas."""
        return replace_leaves(kind, "meta", self.known, True)

    def unify(self, one, other):
        """Makes two types equal by noting what metas stand for."""
        todo = [(one, other)]
        while todo:
            left, right = todo.pop()
            left = self.shown(left)
            right = self.shown(right)
            if left[0] == "meta":
                self.note(left[1], right)
            elif right[0] == "meta":
                self.note(right[1], left)
            elif alike(left, right):
                todo.extend(list(zip(kind_parts(left), kind_parts(right))))
            else:
                raise CannotUnify()

    def shown(self, kind):
        """Returns the type itself, or, for a known meta, the type that it stands for, of which the outside is known."""
        while kind[0] == "meta" and kind[1] in self.known:
            kind = self.known[kind[1]]
        return kind

    def note(self, number, kind):
        """Notes that a meta that is not known yet stands for a type that is no known meta."""
        if kind[0] == "meta" and kind[1] == number:
            return
        self.check_outside(number, kind)
        self.known[number] = kind

    def check_outside(self, number, kind):
        """Refuses a type that contains this meta, also by way of others."""
        seen = {}
        todo = [kind]
        while todo:
            part = todo.pop()
            if part[0] != "meta":
                todo.extend(kind_parts(part))
            elif part[1] == number:
                raise CannotUnify()
            elif part[1] in self.known and part[1] not in seen:
                seen[part[1]] = True
                todo.append(self.known[part[1]])

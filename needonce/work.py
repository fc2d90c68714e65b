"""The state of the work on the types of a program, and of its translation to core.

Types are found and terms are made at once. What is left to do is a list of tasks, the next one last; what is done is a
list of terms. A task takes the terms of its parts off the list of those that are done, and puts its own there.

A dictionary is not known where it is needed, and neither is what a name of a group will be applied to. In their
place stands a hole, ("hole", number), until the group at the top is done.
"""

from needonce.parts import rebuild, unchanged
from needonce.types import replace_names
from needonce.unify import Unifier


class Scope:
    """What the names mean at a place of a program.

    An entry is ("scheme", scheme), or ("one", type, term) for a name that has one type.
    """

    def __init__(self, top, names, around):
        # The entries of the names at the top, and those of the names that are bound further in.
        self.top = top
        self.names = names
        # The types of all names bound around that have one type each, of the hidden ones, too.
        self.around = around

    def entry(self, name):
        if name in self.names:
            return self.names[name]
        return self.top[name]

    def within(self):
        """Returns a scope with the same names, to which some can be added."""
        return Scope(self.top, dict(self.names), self.around)

    def with_more_around(self, kinds):
        """Returns a scope with the same names, of which more have one type each."""
        return Scope(self.top, self.names, (*self.around, *kinds))

    def with_names(self, names, kinds):
        """Returns the scope in which these names have these types."""
        inner = Scope(self.top, dict(self.names), (*self.around, *kinds))
        for name, kind in zip(names, kinds):
            inner.names[name] = ("one", kind, ("var", name))
        return inner


class Work:
    """Everything that is known while the groups at the top and the instances are checked one by one."""

    def __init__(self, declared):
        self.declared = declared
        self.unifier = Unifier()
        self.todo = []
        self.done = []
        # For each definition or group that is being checked, the outermost one first, the needs that arose in it so
        # far: triples of a class, a type and the number of the hole where the dictionary is missing.
        self.needs = []
        self.holes = {}
        # The parameters for the dictionaries of the pairs that are given. All their variables have different names.
        self.given = {}
        self.numbers = 0
        # What has gone wrong with the needs of the definitions that are being checked.
        self.failed = False
        self.ambiguous = False

    def number(self):
        """Returns a number that was not there before."""
        self.numbers += 1
        return self.numbers

    def need(self, class_name, kind):
        """Notes a need. Returns the hole for its dictionary."""
        number = self.number()
        self.needs[-1].append((class_name, kind, number))
        return ("hole", number)

    def use(self, term, scheme, kind):
        """A use, as this type, of what this scheme belongs to: puts the term there, applied to its dictionaries."""
        variables, context, pattern = scheme
        kinds = {variable: self.unifier.fresh() for variable in variables}
        self.unifier.unify(replace_names(pattern, kinds), kind)
        for class_name, variable in context:
            term = ("app", term, self.need(class_name, kinds[variable]))
        self.done.append(term)

    def leaves_around(self, scope, leaves_of):
        """Returns a dict with the variables of one form, metas or names, in the types of the names bound around."""
        found = {}
        for kind in scope.around:
            for leaf in leaves_of(self.unifier.resolve(kind)):
                found[leaf] = True
        return found

    def filled(self, term):
        """Returns the term with what belongs into its holes."""
        return rebuild(term, _content, unchanged, self.holes)


def _content(holes, term):
    """What stands in a hole may be a hole again."""
    while term[0] == "hole":
        term = holes[term[1]]
    return term

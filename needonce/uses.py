"""Where the names of lets stand."""

from needonce.parts import names_of, parts_of


class Uses:
    """How often the names of the lets of a term stand where. No name is bound twice in the term."""

    def __init__(self, term):
        # How often a name stands in the other terms of its let or in its own, and in the body.
        self.in_terms = {}
        self.in_own = {}
        self.in_body = {}
        # The names that stand within a lam of the body.
        self.under_lams = {}
        # For each name in which of these parts of its let the walk is, and in how many lams its let stands.
        self.place = {}
        self.depth = {}
        self.walk(term)

    def is_used(self, name):
        """Tells whether a name stands anywhere but in its own term."""
        return self.in_terms.get(name, 0) + self.in_body.get(name, 0) > 0

    def is_used_once(self, name):
        """Tells whether a name stands in no term of its let, and once in the body, outside of all lams of it."""
        if self.in_terms.get(name, 0) + self.in_own.get(name, 0) > 0:
            return False
        return self.in_body.get(name, 0) == 1 and name not in self.under_lams

    def walk(self, term):
        lams = 0
        todo = [("term", term)]
        while todo:
            word, thing = todo.pop()
            if word == "lams":
                lams += thing
            elif word == "places":
                for name, place in thing:
                    self.place[name] = place
            elif thing[0] == "lam":
                todo.extend([("lams", -1), ("term", thing[2]), ("lams", 1)])
            elif thing[0] == "let":
                for name in names_of(thing):
                    self.depth[name] = lams
                todo.extend(_let_tasks(thing)[::-1])
            elif thing[0] == "var" and thing[1] in self.place:
                self.take_in(thing[1], lams)
            else:
                todo.extend([("term", part) for part in parts_of(thing)])

    def take_in(self, name, lams):
        """Takes in a place where a name stands, within so many lams."""
        place = self.place[name]
        if place == "own":
            self.in_own[name] = self.in_own.get(name, 0) + 1
        elif place == "terms":
            self.in_terms[name] = self.in_terms.get(name, 0) + 1
        else:
            self.in_body[name] = self.in_body.get(name, 0) + 1
            if lams > self.depth[name]:
                self.under_lams[name] = True


def _let_tasks(term):
    """The tasks of a let: what part of it begins for which name, and the part."""
    _, pairs, body = term
    tasks = []
    for own_name, own in pairs:
        places = [(name, "own" if name == own_name else "terms") for name, _ in pairs]
        tasks.extend([("places", places), ("term", own)])
    return [*tasks, ("places", [(name, "body") for name, _ in pairs]), ("term", body)]

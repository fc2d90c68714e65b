"""What the evaluation of a term evaluates first.

A lead is found by going along with the evaluation, as long as it does nothing but evaluate names. What it comes to next
is a list of tasks, pairs of a word and a thing, the next one last. Where the lead of another term is needed, that of
the term of a let or of a branch, its finding is put on a stack, and the present one goes on when it is found.
"""

from needonce.core import free_names
from needonce.forms import COMPARISONS
from needonce.parts import call_parts

# What is evaluated next may note, fault or go on for ever.
STOP = ("stop", None)


class Known:
    """What is known wherever the evaluation comes. No name means two things."""

    def __init__(self, arities, table):
        self.arities = arities
        self.table = dict(table)
        # The leads of the lets, and None for the hidden names.
        self.inner = {}

    def hide(self, names):
        for name in names:
            self.inner[name] = None


class Lead:
    """A lead that is being found. Names that are listed count as heads from then on."""

    def __init__(self, known, heads, term, leads):
        self.known = known
        self.heads = dict(heads)
        self.names = []
        self.clean = True
        self.todo = [("term", term)]
        # The list at the end of which the lead belongs when it is found.
        self.leads = leads

    def list_name(self, name):
        if name not in self.heads:
            self.heads[name] = True
            self.names.append(name)

    def follow(self, lead_of_more):
        """What is evaluated next has this lead."""
        names, clean = lead_of_more
        for name in names:
            self.list_name(name)
        self.clean = clean


def find_lead(known, term):
    """Returns the lead of a term, of which all names are open: a tuple of names, and whether it is clean."""
    leads = []
    stack = [Lead(known, {}, term, leads)]
    while stack:
        found = stack[-1]
        if found.clean and found.todo:
            stack.extend(_go_on(found))
        else:
            stack.pop()
            found.leads.append((tuple(found.names), found.clean))
    return leads[0]


def _go_on(found):
    """Does the next task. Returns the lead that must be found before the others, if there is one, in a list."""
    word, thing = found.todo.pop()
    if word == "stop":
        found.clean = False
    elif word == "lead":
        heads, term, leads = thing
        return [Lead(found.known, {**found.heads, **heads}, term, leads)]
    elif word == "know":
        name, leads = thing
        found.known.inner[name] = leads[0]
    elif word == "join":
        alike = all([one == (thing[0][0], True) for one in thing])
        found.follow((_common_beginning([names for names, _ in thing]), alike))
    else:
        look = LOOKS[thing[0]]
        found.todo.extend(look(found, thing)[::-1])
    return []


def _look_at_head(found, term):
    return []


def _look_at_note(found, term):
    return [STOP]


def _look_at_var(found, term):
    name = term[1]
    known = found.known
    if name in found.heads:
        return []
    if name in known.arities:
        return [] if known.arities[name] > 0 else [STOP]
    if name not in known.inner:
        found.list_name(name)
    elif known.inner[name] is None:
        return [STOP]
    else:
        found.follow(known.inner[name])
    return []


def _look_at_prim(found, term):
    _, sign, one, other = term
    tasks = [("term", one), ("term", other)]
    return tasks if sign in COMPARISONS else [*tasks, STOP]


def _look_at_seq(found, term):
    _, name, first, body = term
    found.heads[name] = True
    return [("term", first), ("term", body)]


def _look_at_let(found, term):
    _, pairs, body = term
    if not is_plain_let(term):
        found.known.hide([name for name, _ in pairs])
        return [("term", body)]
    name, own = pairs[0]
    leads = []
    return [("lead", ({}, own, leads)), ("know", (name, leads)), ("term", body)]


def is_plain_let(term):
    """Tells whether a let has one name, which does not stand in its own term."""
    pairs = term[1]
    return len(pairs) == 1 and pairs[0][0] not in free_names(pairs[0][1])


def _look_at_call(found, term):
    function_part, arguments = call_parts(term)
    many = found.known.arities.get(function_part[1], 0) if function_part[0] == "var" else 0
    if many == 0:
        return [("term", function_part), STOP]
    if len(arguments) < many:
        return []
    indexes = found.known.table.get(function_part[1], ())
    return [*[("term", arguments[index]) for index in indexes], STOP]


def _look_at_choice(found, term):
    """A case or a pick: if one of the branches is surely chosen, what all of them evaluate first is next."""
    word, examined, alternatives, default = term
    if not _is_complete(term):
        return [("term", examined), STOP]
    leads = []
    branches = []
    for alternative in alternatives:
        if word == "case":
            found.known.hide(alternative[1])
        branches.append(("lead", ({}, alternative[-1], leads)))
    if default is not None:
        branches.append(("lead", ({default[0]: True}, default[1], leads)))
    return [("term", examined), *branches, ("join", leads)]


LOOKS = {"num": _look_at_head, "lam": _look_at_head, "con": _look_at_head, "note": _look_at_note,
         "var": _look_at_var, "prim": _look_at_prim, "seq": _look_at_seq, "case": _look_at_choice,
         "pick": _look_at_choice, "let": _look_at_let, "app": _look_at_call}


def _is_complete(term):
    word, examined, alternatives, default = term
    if default is not None:
        return True
    if word != "case" or examined[0] != "prim" or examined[1] not in COMPARISONS:
        return False
    tags = [tag for tag, names, _ in alternatives if not names]
    return 0 in tags and 1 in tags


def _common_beginning(rows):
    """The longest tuple with which all rows, at least one, begin."""
    many = 0
    while many < len(rows[0]) and all([row[:many + 1] == rows[0][:many + 1] for row in rows]):
        many += 1
    return rows[0][:many]

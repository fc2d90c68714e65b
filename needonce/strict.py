"""What the evaluation of a term evaluates first, and tables of the parameters that functions evaluate first."""

from needonce.core import COMPARISONS, arity, free_names
from needonce.parts import call_parts

# A task that ends a lead: what is evaluated next may note, fault or go on for ever.
STOP = ("stop", None)


def lead(program, table, term):
    """Returns the names that a term evaluates first, and whether it does nothing else at all."""
    return _lead(Known(_arities(program), table), {}, term)


def holds_table(program, table):
    """Tells whether a table holds for a program."""
    definitions, _ = program
    terms = dict(definitions)
    arities = _arities(program)
    seen = {}
    for at, (name, indexes) in enumerate(table):
        if name not in terms or name in seen or not _are_indexes(indexes, arities[name]):
            return False
        seen[name] = True
        parameters, body = _split(terms[name])
        wanted = tuple([parameters[index] for index in indexes])
        names, _ = _lead(Known(arities, table[:at]), {}, body)
        if names[:len(wanted)] != wanted:
            return False
    return True


def _are_indexes(indexes, many):
    """Whether there are any, all different, and each that of one of so many parameters."""
    different = {index: True for index in indexes}
    return 0 < len(indexes) == len(different) and all([0 <= index < many for index in indexes])


def make_table(program):
    """Returns the table that is found by going through the definitions again and again."""
    definitions, _ = program
    arities = _arities(program)
    table = ()
    found = {}
    before = -1
    while before < len(table):
        before = len(table)
        for name, term in definitions:
            if name not in found and arities[name] > 0:
                parameters, body = _split(term)
                names, _ = _lead(Known(arities, table), {}, body)
                if names:
                    found[name] = True
                    table += ((name, tuple([parameters.index(parameter) for parameter in names])),)
    return table


def _arities(program):
    definitions, _ = program
    return {name: arity(term) for name, term in definitions}


def _split(term):
    """The parameters of a function, and its body behind its lams."""
    parameters = []
    while term[0] == "lam":
        parameters.append(term[1])
        term = term[2]
    return parameters, term


class Known:
    """What is known while a lead is found, wherever the evaluation comes: no name means two things."""

    def __init__(self, arities, table):
        self.arities = arities
        self.table = dict(table)
        # The leads of the lets, and None for the hidden names.
        self.inner = {}

    def hide(self, names):
        for name in names:
            self.inner[name] = None


class Lead:
    """A lead that is being found. Names that are listed count as heads from then on."""

    def __init__(self, known, heads):
        self.known = known
        self.heads = dict(heads)
        self.names = []
        self.clean = True

    def list_name(self, name):
        if name not in self.heads:
            self.heads[name] = True
            self.names.append(name)

    def follow(self, lead_of_more):
        """What is evaluated next has this lead."""
        names, clean = lead_of_more
        for name in names:
            self.list_name(name)
        self.clean = clean


def _lead(known, heads, term):
    """The lead of a term. The tasks are what is evaluated next, the next one last, as long as the lead is clean."""
    found = Lead(known, heads)
    todo = [("term", term)]
    while todo and found.clean:
        word, thing = todo.pop()
        if word == "stop":
            found.clean = False
        elif word == "branches":
            _follow_branches(found, thing)
        else:
            look = LOOKS[thing[0]]
            todo.extend(look(found, thing)[::-1])
    return (tuple(found.names), found.clean)


def _look_at_head(found, term):
    return []


def _look_at_note(found, term):
    return [STOP]


def _look_at_var(found, term):
    name = term[1]
    known = found.known
    if name in found.heads:
        return []
    if name in known.arities:
        return [] if known.arities[name] > 0 else [STOP]
    if name not in known.inner:
        found.list_name(name)
    elif known.inner[name] is None:
        return [STOP]
    else:
        found.follow(known.inner[name])
    return []


def _look_at_prim(found, term):
    _, sign, one, other = term
    tasks = [("term", one), ("term", other)]
    return tasks if sign in COMPARISONS else [*tasks, STOP]


def _look_at_seq(found, term):
    _, name, first, body = term
    found.heads[name] = True
    return [("term", first), ("term", body)]


def _look_at_choice(found, term):
    return [("term", term[1]), ("branches", term)]


def _look_at_let(found, term):
    _, pairs, body = term
    known = found.known
    if is_plain_let(term):
        name, own = pairs[0]
        known.inner[name] = _lead(known, found.heads, own)
    else:
        known.hide([name for name, _ in pairs])
    return [("term", body)]


def is_plain_let(term):
    """Tells whether a let has one name, which does not stand in its own term."""
    pairs = term[1]
    return len(pairs) == 1 and pairs[0][0] not in free_names(pairs[0][1])


def _look_at_call(found, term):
    function_part, arguments = call_parts(term)
    many = found.known.arities.get(function_part[1], 0) if function_part[0] == "var" else 0
    if many == 0:
        return [("term", function_part), STOP]
    if len(arguments) < many:
        return []
    indexes = found.known.table.get(function_part[1], ())
    return [*[("term", arguments[index]) for index in indexes], STOP]


LOOKS = {"num": _look_at_head, "lam": _look_at_head, "con": _look_at_head, "note": _look_at_note,
         "var": _look_at_var, "prim": _look_at_prim, "seq": _look_at_seq, "case": _look_at_choice,
         "pick": _look_at_choice, "let": _look_at_let, "app": _look_at_call}


def _follow_branches(found, term):
    """Goes on with what all branches of a case or a pick evaluate first, if one of them is surely chosen."""
    if not _is_complete(term):
        found.clean = False
        return
    leads = []
    for alternative in term[2]:
        if term[0] == "case":
            found.known.hide(alternative[1])
        leads.append(_lead(found.known, found.heads, alternative[-1]))
    if term[3] is not None:
        name, body = term[3]
        leads.append(_lead(found.known, {**found.heads, name: True}, body))
    alike = all([one == (leads[0][0], True) for one in leads])
    found.follow((_common_beginning([names for names, _ in leads]), alike))


def _is_complete(term):
    word, examined, alternatives, default = term
    if default is not None:
        return True
    if word != "case" or examined[0] != "prim" or examined[1] not in COMPARISONS:
        return False
    tags = [tag for tag, names, _ in alternatives if not names]
    return 0 in tags and 1 in tags


def _common_beginning(rows):
    """The longest tuple with which all rows, at least one, begin."""
    many = 0
    while many < len(rows[0]) and all([row[:many + 1] == rows[0][:many + 1] for row in rows]):
        many += 1
    return rows[0][:many]

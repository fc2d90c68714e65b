"""Making programs apart, and simpler."""

from needonce.core import free_names
from needonce.meaning import prim_result
from needonce.new_names import NewNames
from needonce.parts import names_of, parts_of, rebuild, scopes_of, with_names, with_parts
from needonce.uses import Uses


def rename_apart(program):
    """Returns the program with new names for those bound names that were bound before."""
    definitions, main = program
    new_names = NewNames(program)
    seen = {name: True for name, _ in definitions}
    return (tuple([(name, _renamed(term, seen, new_names)) for name, term in definitions]), main)


def _renamed(term, seen, new_names):
    """The term with new names; seen are the names that were bound before."""
    done = []
    todo = [(term, {}, False)]
    while todo:
        part, names, ready = todo.pop()
        if ready:
            start = len(done) - len(parts_of(part))
            done[start:] = [with_parts(part, done[start:])]
        elif part[0] == "var":
            done.append(("var", names.get(part[1], part[1])))
        else:
            shell = with_names(part, _own_new_names(part, seen, new_names))
            todo.append((shell, names, True))
            todo.extend(_renamed_parts(part, shell, names)[::-1])
    return done[0]


def _own_new_names(term, seen, new_names):
    """The names that a term will bind itself."""
    found = []
    for name in names_of(term):
        found.append(new_names.make() if name in seen else name)
        seen[name] = True
    return tuple(found)


def _renamed_parts(term, shell, names):
    """The parts of a term, each with the new names of the names that stand in it."""
    tasks = []
    for part, old, new in zip(parts_of(term), scopes_of(term), scopes_of(shell)):
        inner = dict(names)
        for old_name, new_name in zip(old, new):
            inner[old_name] = new_name
        tasks.append((part, inner, False))
    return tasks


def simplify(program):
    """Returns a simpler program that shows the same."""
    definitions, main = _reached(rename_apart(program))
    simple = tuple([(name, _simplified(term)) for name, term in definitions])
    return _reached((simple, main))


def _reached(program):
    """The program without the definitions that main does not reach."""
    definitions, main = program
    terms = dict(definitions)
    reached = {}
    todo = [main]
    while todo:
        name = todo.pop()
        if name not in reached:
            reached[name] = True
            todo.extend(free_names(terms[name]))
    return (tuple([(name, term) for name, term in definitions if name in reached]), main)


def _simplified(term):
    """The term to which no step applies. Each pass through it does many steps, as long as there are any."""
    while True:
        steps = Pass(Uses(term))
        term = rebuild(term, _before, _after, steps)
        if not steps.changed:
            return term


class Pass:
    """A pass through a term. What the lets lose is found from the uses of their names at its beginning."""

    def __init__(self, uses):
        self.uses = uses
        # What comes in the place of names.
        self.instead = {}
        self.changed = False


def _before(steps, term):
    """What comes in the place of a term before its parts are simplified: names go, and names of lets."""
    while True:
        if term[0] == "var" and term[1] in steps.instead:
            term = steps.instead[term[1]]
        elif term[0] == "let":
            kept = _kept_pairs(steps, term)
            if kept:
                return ("let", kept, term[2])
            term = term[2]
        else:
            return term


def _kept_pairs(steps, term):
    """The pairs of a let that it does not lose."""
    names = names_of(term)
    kept = []
    for name, own in term[1]:
        if steps.uses.is_used(name):
            if _is_plain(steps, own, names) or steps.uses.is_used_once(name):
                steps.instead[name] = own
            else:
                kept.append((name, own))
    if len(kept) < len(names):
        steps.changed = True
    return tuple(kept)


def _is_plain(steps, term, names):
    """Whether a term of a let with these names can come in the place of its name everywhere.

    A name that itself goes in this pass can not: the uses of it would no longer be those that were counted.
    """
    if term[0] == "num":
        return True
    return term[0] == "var" and term[1] not in names and term[1] not in steps.instead


def _after(steps, term):
    """What comes in the place of a term of which the parts are simplified."""
    simpler = None
    if term[0] == "app" and term[1][0] == "lam":
        simpler = ("let", ((term[1][1], term[2]),), term[1][2])
    elif term[0] == "case" and term[1][0] == "con":
        simpler = _chosen_branch(term)
    elif term[0] == "pick" and term[1][0] == "num":
        simpler = _picked_branch(term)
    elif term[0] == "prim" and term[2][0] == "num" and term[3][0] == "num":
        result = prim_result(term[1], term[2][1], term[3][1])
        simpler = None if result[0] == "fault" else result
    if simpler is None:
        return term
    steps.changed = True
    return simpler


def _chosen_branch(term):
    """What becomes of a case of a con; None if it stays."""
    _, con, alternatives, default = term
    for tag, names, body in alternatives:
        if tag == con[1] and len(names) == len(con[2]):
            return ("let", tuple(list(zip(names, con[2]))), body) if names else body
    if default is None:
        return None
    return ("seq", default[0], con, default[1])


def _picked_branch(term):
    """What becomes of a pick of a num; None if it stays."""
    _, num, alternatives, default = term
    for number, body in alternatives:
        if number == num[1]:
            return body
    if default is None:
        return None
    return ("let", ((default[0], num),), default[1])

"""What a core term consists of: its parts, the terms directly in it, and the names that it binds itself.

Terms are deep. Whoever goes through one works off a list instead of calling itself again for each part.
"""


def parts_of(term):
    """Returns the tuple of the terms directly in a term, from left to right."""
    find = PARTS.get(term[0])
    return () if find is None else find(term)


def with_parts(term, parts):
    """Returns the term with other terms directly in it: a list with as many as there are."""
    put = WITH_PARTS.get(term[0])
    return term if put is None else put(term, parts)


def names_of(term):
    """Returns the tuple of the names that a term binds itself, in order."""
    names = ()
    for part_names in _own_names(term):
        names += part_names
    return names


def with_names(term, names):
    """Returns the term with other names that it binds itself, in the same order. What stands in it stays."""
    put = WITH_NAMES.get(term[0])
    return term if put is None else put(term, names)


def scopes_of(term):
    """Returns the list of the names, as tuples, that a term binds itself in each of its parts."""
    if term[0] == "let":
        return [names_of(term)] * (len(term[1]) + 1)
    if term[0] == "lam":
        return _own_names(term)
    if term[0] in ("seq", "case", "pick"):
        return [(), *_own_names(term)]
    return [()] * len(parts_of(term))


def rebuild(term, before, after, held):
    """Returns the term in which each term t has been replaced, from the inside to the outside, by after(held, t).

    Ahead of that, from the outside to the inside, before(held, t) has come in the place of each term t.
    """
    done = []
    todo = [(term, False)]
    while todo:
        part, ready = todo.pop()
        if not ready:
            part = before(held, part)
        below = parts_of(part)
        if ready or not below:
            start = len(done) - len(below)
            done[start:] = [after(held, with_parts(part, done[start:]))]
        else:
            todo.append((part, True))
            todo.extend([(inner, False) for inner in below[::-1]])
    return done[0]


def rebuild_pieces(term, put_together, held):
    """Returns what becomes of a term, from the inside to the outside: put_together(held, term, made).

    The list made is what has become of the parts of the term; those of a call are its function part and its arguments.
    """
    done = []
    todo = [(term, False)]
    while todo:
        part, ready = todo.pop()
        below = _pieces(part)
        if ready or not below:
            start = len(done) - len(below)
            done[start:] = [put_together(held, part, done[start:])]
        else:
            todo.append((part, True))
            todo.extend([(inner, False) for inner in below[::-1]])
    return done[0]


def unchanged(held, term):
    """A before or after that changes nothing."""
    return term


def call_parts(term):
    """Returns the function part of a call and the list of its arguments. What is no app is a call of no arguments."""
    arguments = []
    while term[0] == "app":
        arguments.append(term[2])
        term = term[1]
    return term, arguments[::-1]


def lam_parts(term):
    """Returns the list of the names of the lams at the beginning of a term, and the term behind them."""
    names = []
    while term[0] == "lam":
        names.append(term[1])
        term = term[2]
    return names, term


def _pieces(term):
    if term[0] != "app":
        return parts_of(term)
    function_part, arguments = call_parts(term)
    return [function_part, *arguments]


def _own_names(term):
    """The names that a term binds itself, as tuples: one for each place that binds."""
    if term[0] in ("lam", "seq"):
        return [(term[1],)]
    if term[0] == "let":
        return [tuple([name for name, _ in term[1]])]
    if term[0] == "case":
        return [*[names for _, names, _ in term[2]], *_default_names(term)]
    if term[0] == "pick":
        return [*[() for _ in term[2]], *_default_names(term)]
    return []


def _default_names(term):
    return [] if term[3] is None else [(term[3][0],)]


def _default_parts(term):
    return () if term[3] is None else (term[3][1],)


def _lam_body(term):
    return (term[2],)


def _note_parts(term):
    return (term[2],)


def _app_parts(term):
    return term[1:]


def _later_parts(term):
    return term[2:]


def _con_parts(term):
    return term[2]


def _let_parts(term):
    return (*[inner for _, inner in term[1]], term[2])


def _choice_parts(term):
    return (term[1], *[alternative[-1] for alternative in term[2]], *_default_parts(term))


PARTS = {"app": _app_parts, "lam": _lam_body, "let": _let_parts, "seq": _later_parts, "con": _con_parts,
         "case": _choice_parts, "pick": _choice_parts, "prim": _later_parts, "note": _note_parts}


def _with_app_parts(term, parts):
    return ("app", parts[0], parts[1])


def _with_later_parts(term, parts):
    return (term[0], term[1], *parts)


def _with_con_parts(term, parts):
    return ("con", term[1], tuple(parts))


def _with_let_parts(term, parts):
    pairs = [(pair[0], inner) for pair, inner in zip(term[1], parts)]
    return ("let", tuple(pairs), parts[-1])


def _with_choice_parts(term, parts):
    word, _, alternatives, default = term
    new = [(*alternative[:-1], body) for alternative, body in zip(alternatives, parts[1:])]
    if default is not None:
        default = (default[0], parts[-1])
    return (word, parts[0], tuple(new), default)


WITH_PARTS = {"app": _with_app_parts, "lam": _with_later_parts, "let": _with_let_parts, "seq": _with_later_parts,
              "con": _with_con_parts, "case": _with_choice_parts, "pick": _with_choice_parts,
              "prim": _with_later_parts, "note": _with_later_parts}


def _with_first_name(term, names):
    return (term[0], names[0], *term[2:])


def _with_let_names(term, names):
    pairs = [(name, pair[1]) for name, pair in zip(names, term[1])]
    return ("let", tuple(pairs), term[2])


def _with_choice_names(term, names):
    word, examined, alternatives, default = term
    new = []
    at = 0
    for alternative in alternatives:
        if word == "case":
            tag, old, body = alternative
            alternative = (tag, names[at:at + len(old)], body)
            at += len(old)
        new.append(alternative)
    if default is not None:
        default = (names[at], default[1])
    return (word, examined, tuple(new), default)


WITH_NAMES = {"lam": _with_first_name, "let": _with_let_names, "seq": _with_first_name, "case": _with_choice_names,
              "pick": _with_choice_names}

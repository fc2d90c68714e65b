"""Reads core terms from texts, so that tests are easy to read.

    3                           a num
    x                           a var
    (lam x y e)                 a lam, and a lam in it
    (let (x e) (y f) body)      a let
    (seq x e body)              a seq
    (con 1 e f)                 a con
    (case e (1 (x y) body) (else z body))       a case; (else ..) is its default, if it has one
    (pick e (3 body) (else z body))             a pick
    (+ e f)                     a prim
    (note 7 e)                  a note
    (f e g)                     an app, and an app in it
"""

SIGNS = ("+", "-", "*", "div", "mod", "==", "<", "<=")


def term(text):
    return made(tree_of(text))


def program(text):
    """Reads a program of rows `name = term`; a row that is indented goes on with the row before it."""
    rows = []
    for row in text.strip("\n").split("\n"):
        if row.startswith(" "):
            rows[-1] += row
        elif row:
            rows.append(row)
    return (tuple((row.split(" = ", 1)[0], term(row.split(" = ", 1)[1])) for row in rows), "main")


def tree_of(text):
    stack = [[]]
    for word in text.replace("(", " ( ").replace(")", " ) ").split():
        if word == "(":
            stack.append([])
        elif word == ")":
            last = stack.pop()
            stack[-1].append(last)
        else:
            stack[-1].append(word)
    (only,), = stack
    return only


def made(tree):
    if isinstance(tree, str):
        return ("num", int(tree)) if tree.lstrip("-").isdigit() else ("var", tree)
    word, rest = tree[0], tree[1:]
    if word == "lam":
        body = made(rest[-1])
        for name in reversed(rest[:-1]):
            body = ("lam", name, body)
        return body
    if word == "let":
        return ("let", tuple((name, made(inner)) for name, inner in rest[:-1]), made(rest[-1]))
    if word == "seq":
        return ("seq", rest[0], made(rest[1]), made(rest[2]))
    if word == "con":
        return ("con", int(rest[0]), tuple(made(part) for part in rest[1:]))
    if word in ("case", "pick"):
        return choice(word, rest)
    if word == "note":
        return ("note", int(rest[0]), made(rest[1]))
    if word in SIGNS:
        return ("prim", word, made(rest[0]), made(rest[1]))
    function = made(word)
    for part in rest:
        function = ("app", function, made(part))
    return function


def choice(word, rest):
    default = None
    branches = rest[1:]
    if branches and branches[-1][0] == "else":
        default = (branches[-1][1], made(branches[-1][2]))
        branches = branches[:-1]
    alternatives = tuple((int(branch[0]), *[tuple(names) for names in branch[1:-1]], made(branch[-1]))
                         for branch in branches)
    return (word, made(rest[0]), alternatives, default)

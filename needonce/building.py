"""Making core terms out of the terms of the parts of an expression.

Names that the translation adds contain a dot.
"""

NIL = ("con", 0, ())


def lams(names, body):
    """Returns nested lambdas."""
    term = body
    for name in names[::-1]:
        term = ("lam", name, term)
    return term


def applied(function_term, arguments):
    """Returns a term applied to arguments, one after the other."""
    term = function_term
    for argument in arguments:
        term = ("app", term, argument)
    return term


def numbered(letter, many):
    """Returns the tuple of so many added names."""
    return tuple([f"{letter}.{index}" for index in range(many)])


def constructor_term(tag, many):
    """Returns what a constructor with so many types becomes."""
    names = numbered("c", many)
    return lams(names, ("con", tag, tuple([("var", name) for name in names])))


def method_term(index, many):
    """Returns the function from a dictionary of so many methods to the one at this index."""
    names = numbered("m", many)
    alternative = (0, names, ("var", names[index]))
    return ("lam", "d.0", ("case", ("var", "d.0"), (alternative,), None))


def make_term(word, extra, terms):
    """Returns the term of an expression of this kind whose parts have become these terms."""
    make = MAKERS[word]
    return make(extra, terms)


def _make_app(extra, terms):
    return ("app", terms[0], terms[1])


def _make_prim(sign, terms):
    return ("prim", sign, terms[0], terms[1])


def _make_cons(extra, terms):
    return ("con", 1, tuple(terms))


def _make_list(extra, terms):
    term = NIL
    for member in terms[::-1]:
        term = ("con", 1, (member, term))
    return term


def _make_lams(names, terms):
    return lams(names, terms[0])


def _make_note(number, terms):
    return ("note", number, terms[0])


def _make_if(extra, terms):
    condition, chosen, other = terms
    return ("case", condition, ((0, (), other), (1, (), chosen)), None)


def _make_let(extra, terms):
    """The terms come in the order in which the definitions were checked, and behind them that of the body."""
    checked, wanted = extra
    found = {}
    for name, term in zip(checked, terms):
        found[name] = term
    return ("let", tuple([(name, found[name]) for name in wanted]), terms[-1])


def _make_case(extra, terms):
    """The extra is a pair of the patterns and the tags of constructors."""
    patterns, tags = extra
    examined = terms[0]
    bodies = terms[1:]
    default = None
    if patterns[-1][0] == "pname":
        default = (patterns[-1][1], bodies[-1])
        patterns = patterns[:-1]
        if not patterns:
            return ("app", ("lam", default[0], default[1]), examined)
    if patterns[0][0] == "pnum":
        choices = [(pattern[1], body) for pattern, body in zip(patterns, bodies)]
        return ("pick", examined, tuple(choices), default)
    choices = [(tags[pattern[1]], pattern[2], body) for pattern, body in zip(patterns, bodies)]
    return ("case", examined, tuple(choices), default)


MAKERS = {"app": _make_app, "prim": _make_prim, "cons": _make_cons, "list": _make_list, "lams": _make_lams,
          "note": _make_note, "if": _make_if, "let": _make_let, "case": _make_case}

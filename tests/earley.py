"""The grammar of part 2 as it stands there, and a reading of token rows by it that does not know the parser.

A sign :: and the keyword instance are marked if a context belongs to them, as point 2.5 says.
"""

RULES = """
program  = "{" decl? more_decl "}" end
more_decl = | ";" decl? more_decl
decl?    = | decl
decl     = "data" con names "=" built more_built
         | "class" con name "where" "{" method? more_method "}"
         | inst con head "where" "{" define? more_define "}"
         | sign | define
more_built = | "|" built more_built
built    = con smalls
method   = name any:: kind
method?  = | method
more_method = | ";" method? more_method
any::    = "::" | "::!"
inst     = "instance" | "instance!" context "=>"
define?  = | define
more_define = | ";" define? more_define
head     = con | "(" con names ")"
names    = | name names
sign     = name "::" kind | name "::!" context "=>" kind
context  = con name | "(" con name more_pairs ")"
more_pairs = | "," con name more_pairs
define   = name names "=" expr
kind     = plain | plain "->" kind
plain    = con smalls | small
smalls   = | small smalls
small    = name | con | "(" kind ")"
expr     = "\\" name names "->" expr
         | "let" "{" local? more_local "}" "in" expr
         | "if" expr "then" expr "else" expr
         | "case" expr "of" "{" semicolons alt more_alt "}"
         | "note" number expr
         | compare
semicolons = | ";" semicolons
local?   = | local
more_local = | ";" local? more_local
local    = sign | define
alt?     = | alt
more_alt = | ";" alt? more_alt
compare  = cons | cons "==" cons | cons "<" cons | cons "<=" cons
cons     = sum | sum ":" cons
sum      = product | sum "+" product | sum "-" product
product  = apply | product "*" apply | product "div" apply | product "mod" apply
apply    = atom | apply atom
atom     = name | con | number | "(" expr ")" | "[" "]" | "[" expr more_expr "]"
more_expr = | "," expr more_expr
alt      = pattern "->" expr
pattern  = con names | number | name | name ":" name | "[" "]"
expr_text = expr end
kind_text = kind end
"""

BOUNDS = ("where", ";", "{", "}", "=", "")


def read_rules():
    rules = {}
    for row in RULES.strip().split("\n"):
        name, _, right = row.partition("= ") if not row.startswith(" ") else ("", "", row.strip()[1:])
        current = name.strip() or current
        # The sign | stands between alternatives; in quotes it is a sign of the language.
        words = right.replace('"|"', '"BAR"').split("|")
        found = [tuple(word.replace("BAR", "|") for word in part.split()) for part in words]
        rules.setdefault(current, []).extend(found)
    return rules


GRAMMAR = read_rules()


def terminals(row):
    """What each token is in the grammar."""
    found = []
    for at, (kind, text, _, _) in enumerate(row):
        if kind in ("name", "con", "number", "end"):
            found.append(kind)
        elif text in ("::", "instance") and has_context(row, at + 1):
            found.append(f'"{text}!"')
        else:
            found.append(f'"{text}"')
    return found


def has_context(row, at):
    while row[at][1] not in BOUNDS:
        if row[at][1] == "=>":
            return True
        at += 1
    return False


def first_not_allowed(row, start):
    """The index of the first token that the grammar does not allow at its place; None if it allows all."""
    nullable = find_nullable()
    sets = [closure([(start, rule, 0, 0) for rule in GRAMMAR[start]], [], 0, nullable)]
    for at, terminal in enumerate(terminals(row)):
        moved = [(name, rule, dot + 1, origin) for name, rule, dot, origin in sets[-1]
                 if dot < len(rule) and rule[dot] == terminal]
        if not moved:
            return at
        sets.append(closure(moved, sets, at + 1, nullable))
    return None


def find_nullable():
    nullable = set()
    while True:
        more = {name for name, rules in GRAMMAR.items() if any(all(part in nullable for part in rule)
                                                              for rule in rules)}
        if more == nullable:
            return nullable
        nullable = more


def closure(items, sets, at, nullable):
    """All items of the set at this index of Earley's reading."""
    found = dict.fromkeys(items)
    todo = list(items)
    while todo:
        name, rule, dot, origin = todo.pop()
        new = []
        if dot == len(rule):
            before = found if origin == at else sets[origin]
            new = [(other, other_rule, place + 1, start) for other, other_rule, place, start in list(before)
                   if place < len(other_rule) and other_rule[place] == name]
        elif rule[dot] in GRAMMAR:
            new = [(rule[dot], other_rule, 0, at) for other_rule in GRAMMAR[rule[dot]]]
            if rule[dot] in nullable:
                new.append((name, rule, dot + 1, origin))
        for item in new:
            if item not in found:
                found[item] = None
                todo.append(item)
    return found

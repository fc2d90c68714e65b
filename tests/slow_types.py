"""Another reading of part 4, up to the core: types by recursion, from the inside to the outside."""

from needonce.scopes import BUILT_IN
from tests.test_groups import slow_groups

INT = ("con", "Int", ())
BOOL = ("con", "Bool", ())
COMPARISONS = ("==", "<", "<=")


def list_of(kind):
    return ("con", "List", (kind,))


class Ill(Exception):
    pass


def leaves(kind):
    """The variables of a type, named ones and metas, in order."""
    if kind[0] in ("name", "meta"):
        return [kind]
    found = []
    for part in kind[2] if kind[0] == "con" else kind[1:]:
        found += [leaf for leaf in leaves(part) if leaf not in found]
    return found


def put(kind, found):
    """The type with other types in the place of variables."""
    if kind in found:
        return found[kind]
    if kind[0] == "con":
        return ("con", kind[1], tuple(put(part, found) for part in kind[2]))
    if kind[0] == "fun":
        return ("fun", put(kind[1], found), put(kind[2], found))
    return kind


def named(index):
    return "abcdefghijklmnopqrstuvwxyz"[index % 26] + (str(index // 26) if index >= 26 else "")


class SlowTypes:
    def __init__(self, declarations):
        self.declarations = declarations
        self.known = {}
        self.made = 0
        self.needs = []
        self.given = set()
        self.data = {}
        self.classes = {}
        self.instances = {}
        self.top = {}
        for declaration in (*BUILT_IN, *declarations):
            self.take_in(declaration)

    def take_in(self, declaration):
        if declaration[0] == "data":
            result = ("con", declaration[1], tuple(("name", name) for name in declaration[2]))
            for name, kinds in declaration[3]:
                self.data[name] = (kinds, result)
        if declaration[0] == "class":
            self.classes[declaration[1]] = declaration
            for name, kind in declaration[3]:
                self.top[name] = ("poly", ((declaration[1], ("name", declaration[2])),), kind)
        if declaration[0] == "instance":
            self.instances[declaration[2], declaration[3]] = (declaration[1], declaration[4])
        if declaration[0] == "sign":
            self.top[declaration[1]] = self.signed(declaration)

    @staticmethod
    def signed(declaration):
        return ("poly", tuple((name, ("name", variable)) for name, variable in declaration[2]), declaration[3])

    def fresh(self):
        self.made += 1
        return ("meta", self.made)

    def full(self, kind):
        """What the type is known to be."""
        while kind[0] == "meta" and kind in self.known:
            kind = self.known[kind]
        if kind[0] == "con":
            return ("con", kind[1], tuple(self.full(part) for part in kind[2]))
        if kind[0] == "fun":
            return ("fun", self.full(kind[1]), self.full(kind[2]))
        return kind

    def equal(self, one, other):
        one, other = self.full(one), self.full(other)
        if one == other:
            return
        if other[0] == "meta":
            one, other = other, one
        if one[0] == "meta":
            if one in leaves(other):
                raise Ill
            self.known[one] = other
        elif one[0] == other[0] == "fun":
            self.equal(one[1], other[1])
            self.equal(one[2], other[2])
        elif one[0] == other[0] == "con" and one[1] == other[1] and len(one[2]) == len(other[2]):
            for part, other_part in zip(one[2], other[2]):
                self.equal(part, other_part)
        else:
            raise Ill

    # Expressions

    def use(self, context, kind):
        fresh = {leaf: self.fresh() for leaf in leaves(kind) if leaf[0] == "name" and "!" not in leaf[1]}
        for name, variable in context:
            self.needs.append((name, put(variable, fresh)))
        return put(kind, fresh)

    def constructor(self, name):
        kinds, result = self.data[name]
        found = {variable: self.fresh() for variable in result[2]}
        return [put(kind, found) for kind in kinds], put(result, found)

    def expr(self, tree, env):
        """The type of an expression; env has pairs (name, meaning), the innermost last."""
        kind = tree[0]
        if kind == "var":
            meaning = next((meaning for name, meaning in reversed(env) if name == tree[1]), None) or self.top[tree[1]]
            return meaning[1] if meaning[0] == "mono" else self.use(*meaning[1:])
        if kind == "con":
            kinds, result = self.constructor(tree[1])
            for argument in reversed(kinds):
                result = ("fun", argument, result)
            return result
        if kind == "num":
            return INT
        if kind == "app":
            function = self.expr(tree[1], env)
            argument, result = self.expr(tree[2], env), self.fresh()
            self.equal(function, ("fun", argument, result))
            return result
        if kind == "op":
            one, other = self.expr(tree[2], env), self.expr(tree[3], env)
            if tree[1] == ":":
                self.equal(list_of(one), other)
                return other
            self.equal(one, INT)
            self.equal(other, INT)
            return BOOL if tree[1] in COMPARISONS else INT
        if kind == "lam":
            return self.function(tree[1], tree[2], env)
        if kind == "if":
            self.equal(self.expr(tree[1], env), BOOL)
            chosen = self.expr(tree[2], env)
            self.equal(chosen, self.expr(tree[3], env))
            return chosen
        if kind == "list":
            member = self.fresh()
            for part in tree[1]:
                self.equal(self.expr(part, env), member)
            return list_of(member)
        if kind == "note":
            return self.expr(tree[2], env)
        if kind == "let":
            return self.expr(tree[2], self.bindings(tree[1], env))
        return self.case(tree, env)

    def case(self, tree, env):
        examined, result = self.expr(tree[1], env), self.fresh()
        for pattern, body in tree[2]:
            names = ()
            if pattern[0] == "pcon":
                kinds, whole = self.constructor(pattern[1])
                self.equal(whole, examined)
                names = tuple((name, ("mono", kind)) for name, kind in zip(pattern[2], kinds))
            elif pattern[0] == "pnum":
                self.equal(INT, examined)
            else:
                names = ((pattern[1], ("mono", examined)),)
            self.equal(self.expr(body, (*env, *names)), result)
        return result

    def function(self, names, body, env):
        kinds = [self.fresh() for _ in names]
        result = self.expr(body, (*env, *[(name, ("mono", kind)) for name, kind in zip(names, kinds)]))
        for kind in reversed(kinds):
            result = ("fun", kind, result)
        return result

    # Groups

    def around(self, env):
        return {leaf for _, meaning in env if meaning[0] == "mono" for leaf in leaves(self.full(meaning[1]))}

    def bindings(self, declarations, env):
        definitions = tuple(declaration for declaration in declarations if declaration[0] == "define")
        signs = {declaration[1]: self.signed(declaration) for declaration in declarations if declaration[0] == "sign"}
        env = (*env, *signs.items())
        for group in slow_groups(definitions, tuple(signs)):
            members = [definition for definition in definitions if definition[1] in group]
            if group[0] in signs:
                self.signed_definition(members[0], signs[group[0]], env)
            else:
                env = (*env, *self.group(members, env).items())
        return env

    def group(self, members, env):
        before, self.needs = self.needs, []
        kinds = {name: self.fresh() for _, name, _, _ in members}
        inner = (*env, *[(name, ("mono", kind)) for name, kind in kinds.items()])
        for _, name, names, body in members:
            self.equal(kinds[name], self.function(names, body, inner))
        if "main" in kinds and not env:
            self.equal(kinds["main"], list_of(INT))
        needs, self.needs = self.reduced(self.needs), before
        fixed = self.around(env)
        own = [[leaf for leaf in leaves(self.full(kind)) if leaf[0] == "meta" and leaf not in fixed]
               for kind in kinds.values()]
        context = set()
        for need in needs:
            if any(need[1] in metas for metas in own):
                context.add(need)
                if not all(need[1] in metas for metas in own):
                    self.ambiguous = True
            else:
                self.hand_on([need], fixed)
        found = {}
        for (name, kind), metas in zip(kinds.items(), own):
            names = {meta: ("name", named(at)) for at, meta in enumerate(metas)}
            mine = sorted((metas.index(meta), each) for each, meta in context if meta in metas)
            found[name] = ("poly", tuple((each, ("name", named(at))) for at, each in mine), put(self.full(kind), names))
        return found

    def hand_on(self, needs, fixed):
        for need in needs:
            if need[1] in fixed:
                self.needs.append(need)
            else:
                self.ambiguous = True

    def signed_definition(self, definition, meaning, env):
        _, context, kind = meaning
        self.made += 1
        own = {leaf: ("name", f"{leaf[1]}!{self.made}") for leaf in leaves(kind)}
        self.given |= {(name, own[variable]) for name, variable in context}
        self.must_have(definition[2], definition[3], put(kind, own), env)

    def must_have(self, names, body, kind, env):
        before, self.needs = self.needs, []
        self.equal(self.function(names, body, env), kind)
        fixed = self.around(env)
        if fixed & {leaf for leaf in leaves(kind) if leaf[0] == "name"}:
            raise Ill
        needs, self.needs = self.reduced(self.needs), before
        self.hand_on(needs, fixed)

    def reduced(self, needs):
        found = []
        for name, kind in needs:
            kind = self.full(kind)
            if kind[0] == "meta":
                found.append((name, kind))
            elif kind[0] == "con" and (name, kind[1]) in self.instances:
                context, parameters = self.instances[name, kind[1]]
                found += self.reduced([(each, kind[2][parameters.index(variable)]) for each, variable in context])
            elif kind[0] != "name" or (name, kind) not in self.given:
                self.failed = True
        return found

    # Programs

    def checked(self, name, act, *arguments):
        self.failed = self.ambiguous = False
        try:
            result = act(*arguments)
        except Ill:
            return "IllTyped", name
        if self.failed:
            return "NoInstance", name
        return ("Ambiguous", name) if self.ambiguous else (None, result)

    def program(self):
        """The schemes by names, or the name of the error and its field."""
        definitions = tuple(declaration for declaration in self.declarations if declaration[0] == "define")
        signed = tuple(declaration[1] for declaration in self.declarations if declaration[0] == "sign")
        for group in slow_groups(definitions, signed):
            members = [definition for definition in definitions if definition[1] in group]
            if group[0] in signed:
                if group[0] == "main" and self.top["main"][2] != list_of(INT):
                    return "IllTyped", "main"
                word, result = self.checked(group[0], self.signed_definition, members[0], self.top[group[0]], ())
            else:
                word, result = self.checked(group[0], self.group, members, ())
                self.top.update(result if word is None else {})
            if word is not None:
                return word, result
        for declaration in self.declarations:
            if declaration[0] == "instance":
                word, result = self.instance(declaration)
                if word is not None:
                    return word, result
        return {name: self.scheme(self.top[name]) for _, name, _, _ in definitions}

    @staticmethod
    def scheme(meaning):
        _, context, kind = meaning
        variables = tuple(leaf[1] for leaf in leaves(kind))
        return (variables, tuple((name, variable[1]) for name, variable in context), kind)

    def instance(self, declaration):
        _, context, name, head, parameters, methods = declaration
        own = {parameter: ("name", f"{parameter}!i") for parameter in parameters}
        self.given = {(each, own[variable]) for each, variable in context}
        bodies = {method: (names, body) for method, names, body in methods}
        _, _, variable, wanted = self.classes[name]
        for method, kind in wanted:
            others = {leaf: ("name", f"{leaf[1]}!m") for leaf in leaves(kind)}
            whole = put(kind, {**others, ("name", variable): ("con", head, tuple(own.values()))})
            word, result = self.checked(f"{name}.{head}.{method}", self.must_have, *bodies[method], whole, ())
            if word is not None:
                return word, result
        return None, None

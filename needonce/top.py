"""The names at the top of a program."""

from needonce.errors import DoubleName


class Top:
    """What the declarations of a program bind, the built-in ones included. The names are distinct."""

    def __init__(self, declarations):
        # The number of the parameters of each type constructor.
        self.kinds = {"Int": 0}
        # The number of the types of each constructor.
        self.constructors = {}
        # The names of the methods of each class.
        self.classes = {}
        # The names of the definitions and the methods.
        self.value_names = {}
        self.definitions = {}
        for declaration in declarations:
            self.take_in(declaration)

    def take_in(self, declaration):
        if declaration[0] == "data":
            _, name, parameters, constructors = declaration
            self.kinds[name] = len(parameters)
            for constructor, kinds in constructors:
                self.constructors[constructor] = len(kinds)
        elif declaration[0] == "class":
            _, name, _, methods = declaration
            self.classes[name] = tuple([method for method, _ in methods])
            for method, _ in methods:
                self.value_names[method] = True
        elif declaration[0] == "define":
            self.value_names[declaration[1]] = True
            self.definitions[declaration[1]] = True


def check_bound_once(declarations):
    """Raises DoubleName at the first name that a declaration binds again."""
    seen = {("type", "Int"): True}
    for declaration in declarations:
        for kind, name in _bound(declaration):
            if (kind, name) in seen:
                raise DoubleName(kind, name)
            seen[(kind, name)] = True


def _bound(declaration):
    """The pairs (kind, name) that a declaration binds, from left to right."""
    if declaration[0] == "data":
        return [("type", declaration[1]), *[("constructor", name) for name, _ in declaration[3]]]
    if declaration[0] == "class":
        return [("class", declaration[1]), *[("value", name) for name, _ in declaration[3]]]
    if declaration[0] == "instance":
        return [("instance", f"{declaration[2]} {declaration[3]}")]
    if declaration[0] == "sign":
        return [("signature", declaration[1])]
    return [("value", declaration[1])]


def check_distinct(kind, names):
    """Raises DoubleName of this kind at the first name that stands there again."""
    seen = {}
    for name in names:
        if name in seen:
            raise DoubleName(kind, name)
        seen[name] = True

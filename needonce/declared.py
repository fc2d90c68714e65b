"""What the declarations of a program say: constructors, classes, instances and signatures."""

from needonce.trees import signatures_of
from needonce.types import function, scheme_of


class Declared:
    """The declarations of a program, the built-in ones included."""

    def __init__(self, declarations):
        # For each constructor its tag, the number of its types, and its scheme.
        self.tags = {}
        self.counts = {}
        self.constructors = {}
        # For each class its variable and the tuple of its pairs (method, type).
        self.classes = {}
        # For each pair of a class and a type constructor the context and the parameters of the instance.
        self.instances = {}
        # The schemes of the methods and of the definitions that are signed.
        self.schemes = signed_schemes(declarations)
        for declaration in declarations:
            self.take_in(declaration)

    def take_in(self, declaration):
        if declaration[0] == "data":
            self.take_in_data(declaration)
        elif declaration[0] == "class":
            _, name, variable, methods = declaration
            self.classes[name] = (variable, methods)
            for method, kind in methods:
                self.schemes[method] = scheme_of(((name, variable),), kind)
        elif declaration[0] == "instance":
            _, context, name, head, parameters, _ = declaration
            self.instances[(name, head)] = (context, parameters)

    def take_in_data(self, declaration):
        _, head, parameters, constructors = declaration
        result = ("con", head, tuple([("name", parameter) for parameter in parameters]))
        for tag, (name, kinds) in enumerate(constructors):
            self.tags[name] = tag
            self.counts[name] = len(kinds)
            self.constructors[name] = scheme_of((), function(kinds, result))


def signed_schemes(declarations):
    """Returns a dict of the schemes of the signatures among declarations."""
    schemes = {}
    for _, name, context, kind in signatures_of(declarations):
        schemes[name] = scheme_of(context, kind)
    return schemes

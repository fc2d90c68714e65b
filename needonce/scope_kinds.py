"""What must hold for the names in types and contexts."""

from needonce.errors import DoubleName, UnknownName, WrongCount
from needonce.types import variables_of


def check_kind(top, kind, variables):
    """Examines a type from the outside to the inside, and from left to right."""
    todo = [kind]
    while todo:
        part = todo.pop()
        if part[0] == "fun":
            todo.extend([part[2], part[1]])
        elif part[0] == "con":
            _check_type_constructor(top, part)
            todo.extend(part[2][::-1])
        elif part[1] not in variables:
            raise UnknownName("variable", part[1])


def _check_type_constructor(top, kind):
    _, name, arguments = kind
    if name not in top.kinds:
        raise UnknownName("type", name)
    if top.kinds[name] != len(arguments):
        raise WrongCount("type", name)


def check_class_known(top, name):
    if name not in top.classes:
        raise UnknownName("class", name)


def check_context(top, context, variables):
    """Examines the pairs of a context, of which the variables must be among these."""
    seen = {}
    for class_name, variable in context:
        check_class_known(top, class_name)
        if variable not in variables:
            raise UnknownName("variable", variable)
        if (class_name, variable) in seen:
            raise DoubleName("context", f"{class_name} {variable}")
        seen[(class_name, variable)] = True


def check_signature(top, context, kind):
    """Examines the type of a signature, with any variables, and then its context."""
    variables = variables_of(kind)
    check_kind(top, kind, variables)
    check_context(top, context, variables)

"""What must hold for the names of a program."""

from needonce.errors import DoubleName, MissingName, UnknownName, WrongCount
from needonce.scope_exprs import check_definition
from needonce.scope_kinds import check_class_known, check_context, check_kind, check_signature
from needonce.top import Top, check_bound_once, check_distinct
from needonce.types import variables_of

BUILT_IN = (
    ("data", "Bool", (), (("False", ()), ("True", ()))),
    ("data", "List", ("a",), (
        ("Nil", ()),
        ("Cons", (("name", "a"), ("con", "List", (("name", "a"),)))),
    )),
)


def check_scopes(declarations):
    """Raises the first error in the names of a program."""
    everything = BUILT_IN + declarations
    check_bound_once(everything)
    top = Top(everything)
    for declaration in declarations:
        check = CHECKS[declaration[0]]
        check(top, declaration)
    if "main" not in top.definitions:
        raise MissingName("definition", "main")


def _check_data(top, declaration):
    _, _, parameters, constructors = declaration
    check_distinct("variable", parameters)
    for _, kinds in constructors:
        for kind in kinds:
            check_kind(top, kind, parameters)


def _check_class(top, declaration):
    _, _, variable, methods = declaration
    for method, kind in methods:
        variables = variables_of(kind)
        check_kind(top, kind, variables)
        if variable not in variables:
            raise MissingName("variable", method)


def _check_instance(top, declaration):
    _, context, class_name, head, names, methods = declaration
    check_class_known(top, class_name)
    if head not in top.kinds:
        raise UnknownName("type", head)
    check_distinct("variable", names)
    if len(names) != top.kinds[head]:
        raise WrongCount("type", head)
    check_context(top, context, names)
    _check_methods(top, top.classes[class_name], methods)


def _check_methods(top, wanted, methods):
    """Examines the methods of an instance whose class wants these."""
    seen = {}
    for method, parameters, body in methods:
        if method not in wanted:
            raise UnknownName("method", method)
        if method in seen:
            raise DoubleName("method", method)
        seen[method] = True
        check_definition(top, parameters, body)
    for method in wanted:
        if method not in seen:
            raise MissingName("method", method)


def _check_sign(top, declaration):
    _, name, context, kind = declaration
    if name not in top.definitions:
        raise MissingName("definition", name)
    check_signature(top, context, kind)


def _check_define(top, declaration):
    _, _, parameters, body = declaration
    check_definition(top, parameters, body)


CHECKS = {"data": _check_data, "class": _check_class, "instance": _check_instance, "sign": _check_sign,
          "define": _check_define}

"""From a text to its tree."""

from needonce.expressions import read_define, read_expr, read_local
from needonce.kinds import read_context, read_kind, read_method, read_smalls
from needonce.layout import layout, layout_in_braces
from needonce.reader import Reader, read_block
from needonce.tokens import tokens


def parse(text):
    """Returns the tree of a program, the tuple of its declarations."""
    reader = Reader(layout(tokens(text)))
    program = read_block(reader, _read_declaration)
    reader.check_end()
    return program


def parse_expr(text):
    """Returns the tree of a text that is one expression."""
    reader = Reader(layout_in_braces(tokens(text)))
    tree = read_expr(reader)
    reader.check_end()
    return tree


def parse_kind(text):
    """Returns the tree of a text that is one type."""
    reader = Reader(layout_in_braces(tokens(text)))
    tree = read_kind(reader)
    reader.check_end()
    return tree


def _read_declaration(reader):
    read_form = FORMS.get(reader.front())
    if read_form is None:
        return read_local(reader)
    return read_form(reader)


def _read_data(reader):
    reader.skip("data")
    name = reader.take("con")
    parameters = reader.take_names()
    reader.skip("=")
    constructors = [_read_constructor(reader)]
    while reader.skip_if("|"):
        constructors.append(_read_constructor(reader))
    return ("data", name, parameters, tuple(constructors))


def _read_constructor(reader):
    name = reader.take("con")
    return (name, read_smalls(reader))


def _read_class(reader):
    reader.skip("class")
    name = reader.take("con")
    variable = reader.take("name")
    reader.skip("where")
    return ("class", name, variable, read_block(reader, read_method))


def _read_instance(reader):
    reader.skip("instance")
    context = read_context(reader)
    class_name = reader.take("con")
    head, names = _read_head(reader)
    reader.skip("where")
    defines = read_block(reader, read_define)
    methods = tuple([(name, parameters, body) for _, name, parameters, body in defines])
    return ("instance", context, class_name, head, names, methods)


def _read_head(reader):
    if not reader.skip_if("("):
        return reader.take("con"), ()
    name = reader.take("con")
    names = reader.take_names()
    reader.skip(")")
    return name, names


FORMS = {"data": _read_data, "class": _read_class, "instance": _read_instance}

"""Reading types, contexts and signatures."""

# The tokens before which the sign => of a context stands, if there is one.
CONTEXT_BOUNDS = ("where", ";", "{", "}", "=", "")


def read_kind(reader):
    """Reads a type: plain ones, with arrows that group to the right."""
    parts = [_read_plain(reader)]
    while reader.skip_if("->"):
        parts.append(_read_plain(reader))
    tree = parts[-1]
    for part in reversed(parts[:-1]):
        tree = ("fun", part, tree)
    return tree


def _read_plain(reader):
    if reader.front_kind() == "con":
        name = reader.take("con")
        return ("con", name, read_smalls(reader))
    return _read_small(reader)


def read_smalls(reader):
    """Returns the tuple of the types in front that can be arguments; there may be none."""
    found = []
    while reader.front_kind() in ("name", "con") or reader.front() == "(":
        found.append(_read_small(reader))
    return tuple(found)


def _read_small(reader):
    if reader.front_kind() == "name":
        return ("name", reader.take("name"))
    if reader.front_kind() == "con":
        return ("con", reader.take("con"), ())
    reader.skip("(")
    tree = read_kind(reader)
    reader.skip(")")
    return tree


def read_context(reader):
    """Returns the context in front, with its sign =>, or the empty one if there is none."""
    if not _has_context(reader):
        return ()
    if reader.skip_if("("):
        pairs = [_read_pair(reader)]
        while reader.skip_if(","):
            pairs.append(_read_pair(reader))
        reader.skip(")")
    else:
        pairs = [_read_pair(reader)]
    reader.skip("=>")
    return tuple(pairs)


def _has_context(reader):
    at = reader.at
    while reader.row[at][1] not in CONTEXT_BOUNDS:
        if reader.row[at][1] == "=>":
            return True
        at += 1
    return False


def _read_pair(reader):
    name = reader.take("con")
    return (name, reader.take("name"))


def read_method(reader):
    """Reads the declaration of a method in a class."""
    name = reader.take("name")
    reader.skip("::")
    return (name, read_kind(reader))


def read_rest_of_sign(reader, name):
    """Reads a signature from its sign :: on."""
    reader.skip("::")
    context = read_context(reader)
    return ("sign", name, context, read_kind(reader))

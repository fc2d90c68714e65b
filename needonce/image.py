"""Images: code programs as rows of integers."""

from needonce.errors import BadImage
from needonce.forms import SIGNS

OPERANDS = ("slot", "global", "number")
BODIES = ("give", "call", "con", "prim", "let", "seq", "case", "pick", "note")
MEMBERS = ("later", "con", "part")
DEFAULTS = ("none", "body")


def write_image(program):
    """Returns the image of a code program, a list of integers."""
    functions, main = program
    row = [len(functions)]
    for arity, body in functions:
        row.append(arity)
        _write_body(row, body)
    row.append(main)
    return row


def read_image(row):
    """Returns the code program of an image. Raises BadImage if the row is not the image of exactly one program."""
    reader = Reader(row)
    functions = []
    for _ in range(reader.natural()):
        arity = reader.natural()
        functions.append((arity, _read_body(reader)))
    main = reader.natural()
    if reader.at < len(row):
        raise BadImage()
    return (tuple(functions), main)


def _write_body(row, body):
    """Adds the numbers of a body to the row. What is still to be written is a list, the next thing last: numbers, and
    pairs of a word and a body or a delayed member."""
    todo = [("body", body)]
    while todo:
        thing = todo.pop()
        if isinstance(thing, tuple):
            write = WRITERS[thing[0]]
            todo.extend(write(thing[1])[::-1])
        else:
            row.append(thing)


def _body_things(body):
    """What is to be written for a body."""
    word = body[0]
    things = [BODIES.index(word)]
    if word == "give":
        return things + _operand_numbers(body[1:])
    if word == "call":
        return things + _operand_numbers(body[1:2]) + _row_numbers(body[2])
    if word == "con":
        return [*things, body[1], *_row_numbers(body[2])]
    if word == "prim":
        return [*things, SIGNS.index(body[1]), *_operand_numbers(body[2:])]
    if word == "let":
        members = [("member", member) for member in body[1]]
        return [*things, len(members), *members, ("body", body[2])]
    if word == "seq":
        return [*things, ("body", body[1]), ("body", body[2])]
    if word == "note":
        return [*things, body[1], ("body", body[2])]
    return things + _choice_things(body)


def _choice_things(body):
    """What is to be written for a case or a pick behind its first number."""
    _, first, alternatives, default = body
    things = [("body", first), len(alternatives)]
    for alternative in alternatives:
        things.extend([*alternative[:-1], ("body", alternative[-1])])
    return [*things, 0] if default is None else [*things, 1, ("body", default)]


def _member_things(member):
    """What is to be written for a delayed member."""
    things = [MEMBERS.index(member[0])]
    if member[0] == "later":
        return [*things, *_row_numbers(member[1]), ("body", member[2])]
    return [*things, member[1], *_row_numbers(member[2])]


WRITERS = {"body": _body_things, "member": _member_things}


def _row_numbers(operands):
    return [len(operands), *_operand_numbers(operands)]


def _operand_numbers(operands):
    numbers = []
    for word, value in operands:
        numbers.extend([OPERANDS.index(word), value])
    return numbers


class Reader:
    """A place in a row, what is still to be read there, and what has been read and is not put together yet."""

    def __init__(self, row):
        self.row = row
        self.at = 0
        self.todo = []
        self.done = []

    def number(self):
        """Reads any number."""
        if self.at == len(self.row):
            raise BadImage()
        self.at += 1
        return self.row[self.at - 1]

    def natural(self):
        """Reads a number that is not below 0."""
        number = self.number()
        if number < 0:
            raise BadImage()
        return number

    def word(self, words):
        """Reads a number that stands for one of these words."""
        number = self.natural()
        if number >= len(words):
            raise BadImage()
        return words[number]

    def operand(self):
        word = self.word(OPERANDS)
        return (word, self.number() if word == "number" else self.natural())

    def operands(self):
        return tuple([self.operand() for _ in range(self.natural())])

    def last(self, many):
        """Takes so many things off the end of what has been read, and returns them."""
        start = len(self.done) - many
        things = self.done[start:]
        del self.done[start:]
        return things


def _read_body(reader):
    """Reads a body."""
    reader.todo.append(("body", None))
    while reader.todo:
        word, extra = reader.todo.pop()
        read = READERS[word]
        read(reader, extra)
    return reader.done.pop()


def _begin_body(reader, extra):
    """Reads a body up to the first body or member in it. Puts down what is still to be read, the next thing last."""
    word = reader.word(BODIES)
    if word == "let":
        many = _not_none(reader.natural())
        reader.todo.extend([("make let", many), ("body", None), ("members", many)])
    elif word == "seq":
        reader.todo.extend([("make seq", None), ("body", None), ("body", None)])
    elif word in ("case", "pick"):
        reader.todo.extend([("choices", word), ("body", None)])
    elif word == "note":
        reader.todo.extend([("make note", reader.number()), ("body", None)])
    else:
        reader.done.append(_leaf_body(reader, word))


def _leaf_body(reader, word):
    """Reads a body in which no other one stands, behind its first number."""
    if word == "give":
        return ("give", reader.operand())
    if word == "call":
        function = reader.operand()
        operands = reader.operands()
        _not_none(len(operands))
        return ("call", function, operands)
    if word == "con":
        tag = reader.natural()
        return ("con", tag, reader.operands())
    sign = reader.word(SIGNS)
    one = reader.operand()
    return ("prim", sign, one, reader.operand())


def _not_none(many):
    if many == 0:
        raise BadImage()
    return many


def _read_members(reader, many):
    """Reads the next one of so many delayed members."""
    if many == 0:
        return
    reader.todo.append(("members", many - 1))
    word = reader.word(MEMBERS)
    if word == "later":
        operands = reader.operands()
        if not all([place == "slot" for place, _ in operands]):
            raise BadImage()
        reader.todo.extend([("make later", operands), ("body", None)])
    else:
        number = reader.natural()
        reader.done.append((word, number, reader.operands()))


def _read_choices(reader, word):
    many = reader.natural()
    reader.todo.extend([(f"make {word}", many), ("default", None), (f"{word} alternatives", many)])


def _read_case_alternatives(reader, many):
    """Reads the next one of so many alternatives."""
    if many > 0:
        tag = reader.natural()
        reader.done.append((tag, reader.natural()))
        reader.todo.extend([("case alternatives", many - 1), ("body", None)])


def _read_pick_alternatives(reader, many):
    """Reads the next one of so many alternatives."""
    if many > 0:
        reader.done.append((reader.number(),))
        reader.todo.extend([("pick alternatives", many - 1), ("body", None)])


def _read_default(reader, extra):
    if reader.word(DEFAULTS) == "none":
        reader.done.append(None)
    else:
        reader.todo.append(("body", None))


def _make_let(reader, many):
    body = reader.done.pop()
    reader.done.append(("let", tuple(reader.last(many)), body))


def _make_seq(reader, extra):
    first, body = reader.last(2)
    reader.done.append(("seq", first, body))


def _make_note(reader, number):
    reader.done.append(("note", number, reader.done.pop()))


def _make_later(reader, operands):
    reader.done.append(("later", operands, reader.done.pop()))


def _make_case(reader, many):
    reader.done.append(("case", *_choice(reader, many)))


def _make_pick(reader, many):
    reader.done.append(("pick", *_choice(reader, many)))


def _choice(reader, many):
    """What a case or a pick with so many alternatives consists of."""
    default = reader.done.pop()
    things = reader.last(2 * many)
    alternatives = [(*head, body) for head, body in zip(things[::2], things[1::2])]
    return (reader.done.pop(), tuple(alternatives), default)


READERS = {"body": _begin_body, "members": _read_members, "choices": _read_choices, "default": _read_default,
           "case alternatives": _read_case_alternatives, "pick alternatives": _read_pick_alternatives,
           "make let": _make_let, "make seq": _make_seq, "make note": _make_note, "make later": _make_later,
           "make case": _make_case, "make pick": _make_pick}
